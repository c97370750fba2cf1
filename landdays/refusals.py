"""The numbers of the refusals, and the greatest values that aren't refused."""

WRONG_VALUE = -1
TOO_MANY = -2
WRONG_SHAPE = -3
NO_PARCEL = -4
NOT_SO = -5
NO_REGISTRY = -8

MOST_OWNER = 1000
MOST_DAY = 1000000
MOST_PARCELS = 200
MOST_LOWER = 1000


def refused(number):
    """The answer of a refused call."""
    return (number, [])
