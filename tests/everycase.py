"""Tables so small that every case can be looked at; what the document asks of them, word by word."""

import itertools
import math

from calls import begin, rule


def painted(tops, rules):
    """For every case, the earlier ones first, [1, outcome, rule] or [0]: the rules are painted over one another from
    the last to the first, another way than looking for the first that holds."""
    picture = {}
    for k in reversed(range(len(rules))):
        outcome, bounds = rules[k]
        for case in itertools.product(*[range(low, high + 1) for low, high in bounds]):
            picture[case] = [1, outcome, k]
    cases = itertools.product(*[range(top + 1) for top in tops])
    return {case: picture.get(case, [0]) for case in cases}


def random_bounds(source, tops):
    return [tuple(sorted([source.randint(0, top), source.randint(0, top)])) for top in tops]


def random_tops(source, most_cases):
    inputs = source.choice([1, 2, 3, 3, 4, 4])
    while True:
        tops = [source.randint(0, 5) for k in range(inputs)]
        if math.prod(top + 1 for top in tops) <= most_cases:
            return tops


class EveryCase:
    def __init__(self, tops, rules):
        self.tops = tops
        self.rules = rules
        self.start = [begin(*tops)] + [rule(outcome, *bounds) for outcome, bounds in rules]
        self.told = {case: 0 if row == [0] else row[1] + 1 for case, row in painted(tops, rules).items()}
        self.cases = list(self.told)
        places = range(len(tops))
        sets = [part for size in range(len(tops) + 1) for part in itertools.combinations(places, size)]
        self.sets = sorted([sum(2 ** k for k in part) for part in sets], key=lambda bits: (bin(bits).count("1"), bits))
        self.whole = 2 ** len(tops) - 1

    def alike(self, inputs, case):
        """All cases, in order, that have these inputs as this one."""
        wanted = [k for k in range(len(case)) if inputs & 2 ** k]
        return [other for other in self.cases if all(other[k] == case[k] for k in wanted)]

    def otherwise(self, inputs, case):
        return [other for other in self.alike(inputs, case) if self.told[other] != self.told[case]]

    def does_force(self, inputs, case):
        return self.otherwise(inputs, case) == []

    def can_change(self, inputs, case):
        return self.otherwise(self.whole - inputs, case) != []

    def without_parts(self, fit):
        return [bits for bits in fit if not any(part != bits and part | bits == bits for part in fit)]

    def forces(self, inputs, case):
        others = self.otherwise(inputs, case)
        return [0, *others[0]] if others else [1]

    def reasons(self, case):
        found = self.without_parts([inputs for inputs in self.sets if self.does_force(inputs, case)])
        return [len(found), *found]

    def contrasts(self, case):
        found = self.without_parts([inputs for inputs in self.sets if self.can_change(inputs, case)])
        return [len(found), *found]

    def differing(self, case, other):
        return sum(2 ** k for k in range(len(case)) if case[k] != other[k])

    def way(self, t, case):
        fit = [other for other in self.cases if self.told[other] == t]
        if not fit:
            return [-33]
        first = min([self.differing(case, other) for other in fit], key=self.sets.index)
        found = [other for other in fit if self.differing(case, other) | first == first]
        return [bin(first).count("1"), first, *found[0]]


def random_rule(source, tops):
    bounds = random_bounds(source, tops)
    for k, top in enumerate(tops):
        if source.random() < 0.4:
            bounds[k] = (0, top)
    return (source.choice([0, 1, 255]), bounds)


def random_table(source, most_cases):
    tops = random_tops(source, most_cases)
    return EveryCase(tops, [random_rule(source, tops) for k in range(source.randint(0, 10))])
