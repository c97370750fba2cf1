"""The registry: its parcels and its acts, and how an act is done and taken back."""


class Parcel:
    """A parcel with its ring, the days since which it's there and gone, and its shares.

    gone is None as long as it's there; came are the numbers of the parcels that it came out of;
    changes are tuples of a day and the shares since then, one behind another.
    """

    def __init__(self, ring, since, came, shares):
        self.ring = ring
        self.since = since
        self.gone = None
        self.came = came
        self.changes = [(since, shares)]


class Act:
    """What an act did, so that it can be taken back.

    ended are the parcels that are gone by it, made is how many came by it,
    given are the parcels whose shares it changed.
    """

    def __init__(self, day, ended, made, given):
        self.day = day
        self.ended = ended
        self.made = made
        self.given = given


class Registry:
    """All parcels that there are and were, and the acts, each in the order in which they came."""

    def __init__(self, owner, day, ring):
        self.opened = day
        self.parcels = [Parcel(ring, day, [], {owner: (1, 1)})]
        self.acts = []


def last_day(registry):
    """The day of the last act, or of the opening."""
    if len(registry.acts) == 0:
        return registry.opened
    return registry.acts[-1].day


def is_still_there(registry, p):
    """Whether there's a parcel p that isn't gone."""
    return p < len(registry.parcels) and registry.parcels[p].gone is None


def last_shares(parcel):
    """The shares as they were changed last."""
    return parcel.changes[-1][1]


def is_there_on(parcel, day):
    """Whether a parcel is there on a day: from its first one to the one before it's gone."""
    return parcel.since <= day and (parcel.gone is None or day < parcel.gone)


def parcels_on(registry, day):
    """The numbers of the parcels that are there on a day, rising."""
    return [p for p, parcel in enumerate(registry.parcels) if is_there_on(parcel, day)]


def shares_on(parcel, day):
    """Whose a parcel is on a day on which it's there: the shares as they were changed last by then."""
    return [shares for since, shares in parcel.changes if since <= day][-1]


def replace_parcels(registry, ended, rings, day):
    """An act: these parcels are gone since that day, and parcels with these rings come out of them.

    They have the shares of the first one. Gives back the first new number.
    """
    first = len(registry.parcels)
    shares = last_shares(registry.parcels[ended[0]])
    for p in ended:
        registry.parcels[p].gone = day
    for ring in rings:
        registry.parcels.append(Parcel(ring, day, ended, shares))
    registry.acts.append(Act(day, ended, len(rings), []))
    return first


def change_shares(registry, p, shares, day):
    """An act: parcel p has these shares since that day."""
    registry.parcels[p].changes.append((day, shares))
    registry.acts.append(Act(day, [], 0, [p]))


def take_back(registry):
    """The last act is taken back."""
    act = registry.acts.pop()
    registry.parcels = registry.parcels[:len(registry.parcels) - act.made]
    for p in act.ended:
        registry.parcels[p].gone = None
    for p in act.given:
        registry.parcels[p].changes.pop()
