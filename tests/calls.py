"""Writes calls as the interface has them, and reads the answers back one by one."""

from whydecided.reasons import answers

TOP = 4294967295


def begin(*tops):
    return [0, len(tops), *tops]


def rule(outcome, *bounds):
    flat = [number for bound in bounds for number in bound]
    return [1, outcome, len(flat), *flat]


def drop(k):
    return [2, k]


def move(k, to):
    return [3, k, to]


def decide(*case):
    return [4, len(case), *case]


def forces(inputs, *case):
    return [5, inputs, len(case), *case]


def reasons(*case):
    return [6, len(case), *case]


def contrasts(*case):
    return [7, len(case), *case]


def way(t, *case):
    return [8, t, len(case), *case]


def joined(calls):
    return [number for call in calls for number in call]


def split(told):
    rows = []
    place = 0
    while place < len(told):
        size = told[place]
        row = told[place + 1:place + 1 + size]
        if size < 1 or len(row) != size:
            raise AssertionError(f"counts and answers don't fit in {told}")
        rows.append(row)
        place += 1 + size
    return rows


def asked(*calls):
    rows = split(answers(joined(calls)))
    if len(rows) != len(calls):
        raise AssertionError(f"{len(calls)} calls, {len(rows)} answers")
    return rows


def last(*calls):
    return asked(*calls)[-1]


def first_difference(told, wanted):
    """The first place at which two lists differ, or None: unittest's own account of two long lists takes minutes."""
    for place in range(max(len(told), len(wanted))):
        pair = (told[place:place + 1], wanted[place:place + 1])
        if pair[0] != pair[1]:
            return (place, *pair)
    return None
