"""The desk: a list of calls is read, each call is answered, and the answers are told as one list."""

from landdays.acts import answer_give
from landdays.acts import answer_join
from landdays.acts import answer_split
from landdays.acts import answer_undo
from landdays.points import points_of
from landdays.questions import answer_parcel
from landdays.refusals import MOST_DAY
from landdays.refusals import MOST_OWNER
from landdays.refusals import NO_REGISTRY
from landdays.refusals import WRONG_SHAPE
from landdays.refusals import WRONG_VALUE
from landdays.refusals import refused
from landdays.registry import Registry
from landdays.rings import may_be
from landdays.rings import twice_area

OPENING = 1
SPLITTING = 2
JOINING = 3
GIVING = 4
UNDOING = 5
ASKING_PARCEL = 6

# How many whole numbers each call has before its row, if it has one.
ARGUMENTS = {1: 2, 2: 2, 3: 3, 4: 6, 5: 0, 6: 1, 7: 3, 8: 1, 9: 2, 10: 2, 11: 2, 12: 0}
CALLS_WITH_ROW = (1, 2)


class Call:
    """A call that was read: its number, its whole numbers, its row, and the place behind it."""

    def __init__(self, number, numbers, row, behind):
        self.number = number
        self.numbers = numbers
        self.row = row
        self.behind = behind


class Desk:
    """What the calls of one list are made on: it has a registry, or None yet."""

    def __init__(self):
        self.registry = None


def read_call(calls, place):
    """The call that begins at this place of the list."""
    number = calls[place]
    behind = place + 1 + ARGUMENTS[number]
    numbers = calls[place + 1:behind]
    if number not in CALLS_WITH_ROW:
        return Call(number, numbers, [], behind)
    size = calls[behind]
    return Call(number, numbers, calls[behind + 1:behind + 1 + size], behind + 1 + size)


def answer_open(desk, owner, day, numbers):
    """The desk has a new registry, of one parcel."""
    if owner > MOST_OWNER or day > MOST_DAY or len(numbers) % 2 != 0:
        return refused(WRONG_VALUE)
    ring = points_of(numbers)
    if not may_be(ring):
        return refused(WRONG_SHAPE)
    desk.registry = Registry(owner, day, ring)
    return (0, [twice_area(ring)])


def answer_call(desk, call):
    """The answer to a call: a tuple of a number and a list."""
    numbers = call.numbers
    if call.number == OPENING:
        return answer_open(desk, numbers[0], numbers[1], call.row)
    if desk.registry is None:
        return refused(NO_REGISTRY)
    if call.number == SPLITTING:
        return answer_split(desk.registry, numbers[0], numbers[1], call.row)
    if call.number == JOINING:
        return answer_join(desk.registry, numbers[0], numbers[1], numbers[2])
    if call.number == GIVING:
        return answer_give(desk.registry, numbers[0], numbers[1], numbers[2], numbers[3], numbers[4], numbers[5])
    if call.number == UNDOING:
        return answer_undo(desk.registry)
    if call.number == ASKING_PARCEL:
        return answer_parcel(desk.registry, numbers[0])
    # The other calls are only read so far; what isn't told yet is 0 and empty.
    return (0, [])


def told(number, found):
    """An answer as it stands in the list that's given back, with how many numbers it has before it."""
    if len(found) == 0:
        return [1, number]
    return [len(found) + 3, number, len(found)] + found + [0]


def answers(calls):
    """The answers to a list of calls on one new object, one behind another."""
    desk = Desk()
    given_back = []
    place = 0
    while place < len(calls):
        call = read_call(calls, place)
        answer = answer_call(desk, call)
        given_back.extend(told(answer[0], answer[1]))
        place = call.behind
    return given_back
