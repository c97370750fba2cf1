"""Lists of calls made for tests, and the lists of answers read back."""

from landdays.desk import answers

RECTANGLE = [0, 0, 40, 0, 40, 30, 0, 30]


class Line:
    """Calls one behind another; each method adds a call, `ask` gives back all answers."""

    def __init__(self):
        self.calls = []
        self.size = 0

    def add(self, *numbers):
        self.calls.extend(numbers)
        self.size += 1
        return self

    def open(self, owner=7, day=10, ring=RECTANGLE):
        return self.add(1, owner, day, len(ring), *ring)

    def split(self, p, day, way):
        return self.add(2, p, day, len(way), *way)

    def join(self, p, q, day):
        return self.add(3, p, q, day)

    def give(self, p, day, a, b, n, d):
        return self.add(4, p, day, a, b, n, d)

    def undo(self):
        return self.add(5)

    def parcel(self, p):
        return self.add(6, p)

    def at(self, x, y, day):
        return self.add(7, x, y, day)

    def there(self, day):
        return self.add(8, day)

    def whose(self, p, day):
        return self.add(9, p, day)

    def holds(self, owner, day):
        return self.add(10, owner, day)

    def beside(self, p, q):
        return self.add(11, p, q)

    def acts(self):
        return self.add(12)

    def parcels(self, size):
        for p in range(size):
            self.parcel(p)
        return self

    def ask(self):
        found = read_answers(answers(self.calls))
        if len(found) != self.size:
            raise AssertionError(f"{self.size} calls, {len(found)} answers")
        return found

    def last(self, size=1):
        """The last answer, or the list of the last ones."""
        found = self.ask()
        return found[-1] if size == 1 else found[-size:]


def strips():
    """A line on day 10 by which there are 199 parcels: strips of width 1 cut off one by one, 198 the rest."""
    line = Line().open(ring=[0, 0, 200, 0, 200, 30, 0, 30])
    for k in range(99):
        line.split(2 * k, 10, [k + 1, 0, k + 1, 30])
    return line


def read_answers(numbers):
    """A list of answers as tuples of a number and a list; an error if its form isn't the told one."""
    found = []
    place = 0
    while place < len(numbers):
        size = numbers[place]
        answer = numbers[place + 1:place + 1 + size]
        if len(answer) != size or size < 1:
            raise AssertionError(f"cut off at {place}: {numbers}")
        found.append(read_answer(answer))
        place += 1 + size
    return found


def read_answer(answer):
    for number in answer:
        if type(number) is not int:
            raise AssertionError(f"not a whole number: {number!r}")
    if len(answer) == 1:
        return (answer[0], [])
    number, size, listed, text = answer[0], answer[1], answer[2:-1], answer[-1]
    if number < 0 or size == 0 or size != len(listed) or text != 0:
        raise AssertionError(f"not an answer: {answer}")
    return (number, listed)


def told_parcel(numbers):
    """The list of a parcel's answer by its parts."""
    size = numbers[3]
    return {"gone": numbers[0], "since": numbers[1], "area": numbers[2],
            "came": numbers[4:4 + size], "ring": numbers[4 + size:]}
