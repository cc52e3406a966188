"""The calls on one row of steps, told as one list of whole numbers, and their answers, given back as one."""

from nearpoints.row import StepRow

BEGIN = 1
SHORTEST = 2
MINIMA = 3
REDUCED = 4
HAS = 5
SAME = 6
NEAREST = 7
WALLS = 8
JUDGE = 9


class UnknownCall(ValueError):
    """A call's number that tells no call."""


class Reader:
    """Goes through the list that was handed in, and leaves it as it is."""

    def __init__(self, numbers):
        self.numbers = numbers
        self.place = 0

    def is_done(self):
        return self.place >= len(self.numbers)

    def take_number(self):
        number = self.numbers[self.place]
        self.place += 1
        return number

    def take_row(self):
        count = self.take_number()
        row = self.numbers[self.place:self.place + count]
        self.place += count
        return row


def answer_of_next(row, reader):
    call = reader.take_number()
    if call == BEGIN:
        return row.begin(reader.take_number(), reader.take_row(), reader.take_row())
    if call == SHORTEST:
        return row.shortest()
    if call == MINIMA:
        return row.minima()
    if call == REDUCED:
        return row.reduced()
    if call == HAS:
        return row.has(reader.take_row(), reader.take_row())
    if call == SAME:
        return row.same(reader.take_row(), reader.take_row())
    if call == NEAREST:
        return row.nearest(reader.take_number(), reader.take_row(), reader.take_row())
    if call == WALLS:
        return row.walls()
    if call == JUDGE:
        return row.judge(reader.take_row(), reader.take_row())
    raise UnknownCall(f"no call has the number {call}")


def answers(calls):
    """For each call, in order: how many numbers are answered, then these."""
    row = StepRow()
    reader = Reader(calls)
    told = []
    while not reader.is_done():
        answer = answer_of_next(row, reader)
        told.append(len(answer))
        told.extend(answer)
    return told
