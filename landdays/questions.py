"""The calls that ask a registry and change nothing. Each gives back its answer: a tuple of a number and a list."""

from landdays.neighbours import how_beside
from landdays.points import numbers_of
from landdays.refusals import NOT_SO
from landdays.refusals import NO_PARCEL
from landdays.refusals import refused
from landdays.registry import is_there_on
from landdays.registry import last_day
from landdays.registry import parcels_on
from landdays.registry import shares_on
from landdays.rings import is_inside
from landdays.rings import is_on_edge
from landdays.rings import twice_area
from landdays.shares import area_of
from landdays.shares import plus
from landdays.shares import share_of


def answer_parcel(registry, p):
    """What parcel p is, whether it's gone or not."""
    if p >= len(registry.parcels):
        return refused(NO_PARCEL)
    parcel = registry.parcels[p]
    gone = -1 if parcel.gone is None else parcel.gone
    told = [gone, parcel.since, twice_area(parcel.ring), len(parcel.came)]
    return (0, told + parcel.came + numbers_of(parcel.ring))


def answer_at(registry, x, y, day):
    """In which parcel a point lay on a day, or on whose edges."""
    point = (x, y)
    there = parcels_on(registry, day)
    within = [p for p in there if is_inside(registry.parcels[p].ring, point)]
    bordering = [p for p in there if is_on_edge(registry.parcels[p].ring, point)]
    return (1 if len(within) > 0 else 0, sorted(within + bordering))


def answer_there(registry, day):
    """Which parcels there were on a day."""
    there = parcels_on(registry, day)
    return (len(there), there)


def answer_whose(registry, p, day):
    """Whose parcel p was on a day."""
    if p >= len(registry.parcels):
        return refused(NO_PARCEL)
    parcel = registry.parcels[p]
    if not is_there_on(parcel, day):
        return refused(NOT_SO)
    shares = shares_on(parcel, day)
    told = []
    for owner in sorted(shares):
        told.append(owner)
        told.extend(shares[owner])
    return (len(shares), told)


def answer_holds(registry, owner, day):
    """In how many parcels an owner had a share on a day, and what area that came to."""
    held = 0
    area = (0, 1)
    for p in parcels_on(registry, day):
        parcel = registry.parcels[p]
        share = share_of(shares_on(parcel, day), owner)
        if share[0] > 0:
            held += 1
            area = plus(area, area_of(share, twice_area(parcel.ring)))
    return (held, list(area))


def answer_beside(registry, p, q):
    """How the rings of parcels p and q are beside one another, whenever they were there."""
    if max(p, q) >= len(registry.parcels):
        return refused(NO_PARCEL)
    return (how_beside(registry.parcels[p].ring, registry.parcels[q].ring), [])


def answer_acts(registry):
    """How many acts there are, the day of the last, and how many parcels there are and were."""
    return (len(registry.acts), [last_day(registry), len(registry.parcels)])
