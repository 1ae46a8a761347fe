"""Answers a list of calls on one new table of rules."""

from whydecided.table import Table

BEGIN = 0
RULE = 1
DROP = 2
MOVE = 3
DECIDE = 4


class UnknownCall(ValueError):
    pass


# The place stands here and not in the list, because what is handed in stays as it is.
class Reader:
    def __init__(self, numbers):
        self.numbers = numbers
        self.place = 0

    def has_more(self):
        return self.place < len(self.numbers)

    def take_number(self):
        number = self.numbers[self.place]
        self.place += 1
        return number

    def take_row(self):
        size = self.take_number()
        start = self.place
        self.place += size
        return self.numbers[start:self.place]

    def take_bounds(self):
        row = self.take_row()
        return [(row[k], row[k + 1]) for k in range(0, len(row), 2)]


def answers(calls):
    reader = Reader(calls)
    table = Table()
    told = []
    while reader.has_more():
        answer = answer_one(reader, table)
        told.append(len(answer))
        told.extend(answer)
    return told


def answer_one(reader, table):
    call = reader.take_number()
    if call == BEGIN:
        return table.begin(reader.take_row())
    if call == RULE:
        outcome = reader.take_number()
        return table.add_rule(outcome, reader.take_bounds())
    if call == DROP:
        return table.drop_rule(reader.take_number())
    if call == MOVE:
        k = reader.take_number()
        to = reader.take_number()
        return table.move_rule(k, to)
    if call == DECIDE:
        return table.decide(reader.take_row())
    # How long such a call is can't be told, so none behind it could be read.
    raise UnknownCall(f"the call {call} is not known")
