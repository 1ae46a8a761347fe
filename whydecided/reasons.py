"""Answers a list of calls on one new table of rules, and tells why the table decided as it did."""

from whydecided.table import Search, Table, WRONG

BEGIN = 0
RULE = 1
DROP = 2
MOVE = 3
DECIDE = 4
FORCES = 5
REASONS = 6
CONTRASTS = 7
WAY = 8

MOST_TOLD = 256

NEVER = -33


class UnknownCall(ValueError):
    pass


# The place stands here and not in the list, because what is handed in stays as it is.
class Reader:
    def __init__(self, numbers):
        self.numbers = numbers
        self.place = 0

    def has_more(self):
        return self.place < len(self.numbers)

    def take_number(self):
        number = self.numbers[self.place]
        self.place += 1
        return number

    def take_row(self):
        size = self.take_number()
        start = self.place
        self.place += size
        return self.numbers[start:self.place]

    def take_bounds(self):
        row = self.take_row()
        return [(row[k], row[k + 1]) for k in range(0, len(row), 2)]


def answers(calls):
    reader = Reader(calls)
    table = Table()
    told = []
    while reader.has_more():
        call = reader.take_number()
        answer = answer_change(call, reader, table) if call < DECIDE else answer_question(call, reader, table)
        told.append(len(answer))
        told.extend(answer)
    return told


def answer_change(call, reader, table):
    if call == BEGIN:
        return table.begin(reader.take_row())
    if call == RULE:
        outcome = reader.take_number()
        return table.add_rule(outcome, reader.take_bounds())
    if call == DROP:
        return table.drop_rule(reader.take_number())
    k = reader.take_number()
    to = reader.take_number()
    return table.move_rule(k, to)


def answer_question(call, reader, table):
    if call == DECIDE:
        return table.decide(reader.take_row())
    if call == FORCES:
        inputs = reader.take_number()
        return forces(table, inputs, reader.take_row())
    if call == REASONS:
        return all_reasons(table, reader.take_row())
    if call == CONTRASTS:
        return all_contrasts(table, reader.take_row())
    if call == WAY:
        t = reader.take_number()
        return way(table, t, reader.take_row())
    # How long such a call is can't be told, so none behind it could be read.
    raise UnknownCall(f"the call {call} is not known")


def forces(table, inputs, case):
    if not table.is_case(case) or inputs > all_inputs(case):
        return [WRONG]
    found = search_otherwise(table, case).earliest(all_inputs(case) - inputs)
    if found is None:
        return [1]
    return [0] + found


def all_reasons(table, case):
    if not table.is_case(case):
        return [WRONG]
    search = search_otherwise(table, case)
    every = all_inputs(case)
    reasons = least([inputs for inputs in sets_in_order(case) if search.earliest(every - inputs) is None])
    return [len(reasons)] + reasons


def all_contrasts(table, case):
    if not table.is_case(case):
        return [WRONG]
    search = search_otherwise(table, case)
    contrasts = least([inputs for inputs in sets_in_order(case) if search.earliest(inputs) is not None])
    return [len(contrasts)] + contrasts


def way(table, t, case):
    if not table.is_case(case) or t > MOST_TOLD:
        return [WRONG]
    search = Search(table, case, [told == t for told in table.told_by_each()])
    for inputs in sets_in_order(case):
        found = search.earliest(inputs)
        if found is not None:
            return [size_of(inputs), inputs] + found
    return [NEVER]


# Two rules with one outcome decide alike: what's told is held against what's told, not rule against rule.
def search_otherwise(table, case):
    here = table.told_in(case)
    return Search(table, case, [told != here for told in table.told_by_each()])


# A set of inputs is told as bits, bit k for input k.
def all_inputs(case):
    return (1 << len(case)) - 1


# sorted leaves sets of one size as they stood, the lesser number first.
def sets_in_order(case):
    return sorted(range(all_inputs(case) + 1), key=size_of)


def size_of(inputs):
    return sum([(inputs >> k) & 1 for k in range(inputs.bit_length())])


# The sets in which no other one lies; they come in order, so a part comes ahead of what it lies in.
def least(sets):
    kept = []
    for inputs in sets:
        if not any([part & inputs == part for part in kept]):
            kept.append(inputs)
    return kept
