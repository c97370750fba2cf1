"""What each of the twelve calls would be answered next on a line: for comparing two lines with one another."""

from landdays.desk import answers
from tests.lines import RECTANGLE, read_answers

MOST_CALLS = 400


def day_questions(parcels, days, owners, points):
    """The calls at, there, whose and holds of each of these days."""
    calls = []
    for day in days:
        calls += [[7, x, y, day] for x, y in points] + [[8, day]]
        calls += [[9, p, day] for p in parcels] + [[10, owner, day] for owner in owners]
    return calls


def other_questions(parcels):
    """The calls parcel, beside and acts."""
    return [[6, p] for p in parcels] + [[11, p, q] for p in parcels for q in parcels if p <= q] + [[12]]


def changing_calls(parcels, days, owners, ways):
    """The calls open, split, join, give and undo, those that will be refused among them."""
    calls = [[1, 3, 5, 8] + RECTANGLE, [1, 1001, 5, 8] + RECTANGLE, [1, 3, 5, 2, 0, 0], [5]]
    for day in days:
        calls += [[2, p, day, len(way)] + way for p in parcels for way in ways]
        calls += [[3, p, q, day] for p in parcels for q in parcels]
        calls += [[4, p, day, a, b, 1, 2] for p in parcels for a in owners for b in owners[:1]]
    return calls


def answers_next(line, calls):
    """The answer to each of these calls, made as the line's next one."""
    return [read_answers(answers(line.calls + call))[-1] for call in calls]


def answers_on(line, questions):
    """The answers to these calls, none of which changes anything, made behind the line one after another."""
    found = []
    size = MOST_CALLS - line.size
    for k in range(0, len(questions), size):
        part = questions[k:k + size]
        found += read_answers(answers(line.calls + [number for call in part for number in call]))[-len(part):]
    return found
