"""The calls that ask a registry and change nothing. Each gives back a tuple of a number and a list."""

from landdays.points import numbers_of
from landdays.refusals import NO_PARCEL
from landdays.refusals import refused
from landdays.rings import twice_area


def answer_parcel(registry, p):
    """What parcel p is, whether it's gone or not."""
    if p >= len(registry.parcels):
        return refused(NO_PARCEL)
    parcel = registry.parcels[p]
    gone = -1 if parcel.gone is None else parcel.gone
    told = [gone, parcel.since, twice_area(parcel.ring), len(parcel.came)]
    return (0, told + parcel.came + numbers_of(parcel.ring))
