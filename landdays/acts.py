"""The calls that change a registry. Each gives back its answer: a tuple of a number and a list."""

from landdays.points import points_of
from landdays.refusals import MOST_DAY
from landdays.refusals import MOST_LOWER
from landdays.refusals import MOST_OWNER
from landdays.refusals import MOST_PARCELS
from landdays.refusals import NOT_SO
from landdays.refusals import NO_PARCEL
from landdays.refusals import TOO_MANY
from landdays.refusals import WRONG_SHAPE
from landdays.refusals import WRONG_VALUE
from landdays.refusals import refused
from landdays.registry import change_shares
from landdays.registry import is_still_there
from landdays.registry import last_day
from landdays.registry import last_shares
from landdays.registry import replace_parcels
from landdays.registry import take_back
from landdays.rings import MOST_POINTS
from landdays.rings import twice_area
from landdays.shares import fraction
from landdays.shares import is_less
from landdays.shares import share_of
from landdays.shares import shares_given
from landdays.unions import join_rings
from landdays.ways import goes_through
from landdays.ways import split_ring


def act_refusal(registry, touched, day, made):
    """The number that refuses an act on these parcels by which so many come, or 0 if none does."""
    if day < last_day(registry) or day > MOST_DAY:
        return WRONG_VALUE
    if not all([is_still_there(registry, p) for p in touched]):
        return NO_PARCEL
    # Parcels that are gone keep their numbers, so they count too.
    if len(registry.parcels) + made > MOST_PARCELS:
        return TOO_MANY
    return 0


def answer_split(registry, p, day, numbers):
    """Parcel p is split along a way."""
    refusal = act_refusal(registry, [p], day, 2)
    if refusal != 0:
        return refused(refusal)
    if len(numbers) % 2 != 0:
        return refused(WRONG_SHAPE)
    ring = registry.parcels[p].ring
    way = points_of(numbers)
    if not goes_through(ring, way):
        return refused(WRONG_SHAPE)
    parts = split_ring(ring, way)
    if max([len(part) for part in parts]) > MOST_POINTS:
        return refused(TOO_MANY)
    first = replace_parcels(registry, [p], parts, day)
    return (first, [twice_area(part) for part in parts])


def answer_join(registry, p, q, day):
    """Parcels p and q are joined."""
    if p == q:
        return refused(WRONG_VALUE)
    refusal = act_refusal(registry, [p, q], day, 1)
    if refusal != 0:
        return refused(refusal)
    one = registry.parcels[p]
    other = registry.parcels[q]
    if last_shares(one) != last_shares(other):
        return refused(NOT_SO)
    ring = join_rings(one.ring, other.ring)
    if ring is None:
        return refused(WRONG_SHAPE)
    number = replace_parcels(registry, sorted([p, q]), [ring], day)
    return (number, [twice_area(ring)])


def is_gift(a, b, n, d):
    """Whether n / d is something that owner a could give to owner b."""
    if a > MOST_OWNER or b > MOST_OWNER or a == b:
        return False
    return 0 < d <= MOST_LOWER and 0 < n <= d


def answer_give(registry, p, day, a, b, n, d):
    """Owner a gives n / d of the whole parcel p to owner b."""
    if not is_gift(a, b, n, d):
        return refused(WRONG_VALUE)
    refusal = act_refusal(registry, [p], day, 0)
    if refusal != 0:
        return refused(refusal)
    shares = last_shares(registry.parcels[p])
    part = fraction(n, d)
    if is_less(share_of(shares, a), part):
        return refused(NOT_SO)
    after = shares_given(shares, a, b, part)
    change_shares(registry, p, after, day)
    return (0, list(share_of(after, a)))


def answer_undo(registry):
    """The last act is taken back."""
    if len(registry.acts) == 0:
        return refused(NOT_SO)
    take_back(registry)
    return (len(registry.acts), [])
