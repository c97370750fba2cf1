"""The desk: a list of calls is read, each call is answered, and the answers are told as one list."""

from landdays.acts import answer_give
from landdays.acts import answer_join
from landdays.acts import answer_split
from landdays.acts import answer_undo
from landdays.points import points_of
from landdays.questions import answer_acts
from landdays.questions import answer_at
from landdays.questions import answer_beside
from landdays.questions import answer_holds
from landdays.questions import answer_parcel
from landdays.questions import answer_there
from landdays.questions import answer_whose
from landdays.refusals import MOST_DAY
from landdays.refusals import MOST_OWNER
from landdays.refusals import NO_REGISTRY
from landdays.refusals import WRONG_SHAPE
from landdays.refusals import WRONG_VALUE
from landdays.refusals import refused
from landdays.registry import Registry
from landdays.rings import may_be
from landdays.rings import twice_area

OPENING = 1
SPLITTING = 2
JOINING = 3
GIVING = 4
UNDOING = 5
ASKING_PARCEL = 6
ASKING_AT = 7
ASKING_THERE = 8
ASKING_WHOSE = 9
ASKING_HOLDS = 10
ASKING_BESIDE = 11

# How many whole numbers each call has before its row, if it has one.
ARGUMENTS = {1: 2, 2: 2, 3: 3, 4: 6, 5: 0, 6: 1, 7: 3, 8: 1, 9: 2, 10: 2, 11: 2, 12: 0}
CALLS_WITH_ROW = (1, 2)


class Call:
    """A call that was read: its number, its whole numbers, its row, and the place behind it."""

    def __init__(self, number, numbers, row, behind):
        self.number = number
        self.numbers = numbers
        self.row = row
        self.behind = behind


class Desk:
    """What the calls of one list are made on: it has a registry, or None yet."""

    def __init__(self):
        self.registry = None


def read_call(calls, place):
    """The call that begins at this place of the list."""
    number = calls[place]
    behind = place + 1 + ARGUMENTS[number]
    numbers = calls[place + 1:behind]
    if number not in CALLS_WITH_ROW:
        return Call(number, numbers, [], behind)
    size = calls[behind]
    return Call(number, numbers, calls[behind + 1:behind + 1 + size], behind + 1 + size)


def answer_open(desk, owner, day, numbers):
    """The desk has a new registry, of one parcel."""
    if owner > MOST_OWNER or day > MOST_DAY or len(numbers) % 2 != 0:
        return refused(WRONG_VALUE)
    ring = points_of(numbers)
    if not may_be(ring):
        return refused(WRONG_SHAPE)
    desk.registry = Registry(owner, day, ring)
    return (0, [twice_area(ring)])


def answer_act(registry, number, numbers, row):
    """The answer to a call that may change the registry."""
    if number == SPLITTING:
        return answer_split(registry, numbers[0], numbers[1], row)
    if number == JOINING:
        return answer_join(registry, numbers[0], numbers[1], numbers[2])
    if number == GIVING:
        return answer_give(registry, numbers[0], numbers[1], numbers[2], numbers[3], numbers[4], numbers[5])
    return answer_undo(registry)


def answer_question(registry, number, numbers):
    """The answer to a call that only asks the registry; the last one, acts, has no numbers."""
    if number == ASKING_PARCEL:
        return answer_parcel(registry, numbers[0])
    if number == ASKING_AT:
        return answer_at(registry, numbers[0], numbers[1], numbers[2])
    if number == ASKING_THERE:
        return answer_there(registry, numbers[0])
    if number == ASKING_WHOSE:
        return answer_whose(registry, numbers[0], numbers[1])
    if number == ASKING_HOLDS:
        return answer_holds(registry, numbers[0], numbers[1])
    if number == ASKING_BESIDE:
        return answer_beside(registry, numbers[0], numbers[1])
    return answer_acts(registry)


def answer_call(desk, call):
    """The answer to a call: a tuple of a number and a list."""
    if call.number == OPENING:
        return answer_open(desk, call.numbers[0], call.numbers[1], call.row)
    if desk.registry is None:
        return refused(NO_REGISTRY)
    if call.number <= UNDOING:
        return answer_act(desk.registry, call.number, call.numbers, call.row)
    return answer_question(desk.registry, call.number, call.numbers)


def told(number, found):
    """An answer as it stands in the list that's given back, with how many numbers it has before it."""
    if len(found) == 0:
        return [1, number]
    return [len(found) + 3, number, len(found)] + found + [0]


def answers(calls):
    """The answers to a list of calls on one new object, one behind another."""
    desk = Desk()
    given_back = []
    place = 0
    while place < len(calls):
        call = read_call(calls, place)
        answer = answer_call(desk, call)
        given_back.extend(told(answer[0], answer[1]))
        place = call.behind
    return given_back
