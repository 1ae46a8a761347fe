"""Rules in an order, over inputs that each go from 0 to a top, and what they decide."""

MOST_INPUTS = 4
MOST_RULES = 10
MOST_OUTCOME = 255

NOT_THERE = -2
WRONG = -22
FULL = -28


class Rule:
    # bounds holds a pair (from, to) for each input, and both ends belong to it.
    def __init__(self, outcome, bounds):
        self.outcome = outcome
        self.bounds = bounds

    def holds(self, case):
        for number, bound in zip(case, self.bounds):
            if number < bound[0] or number > bound[1]:
                return False
        return True


# Each call gives back the list of numbers that it answers, a refusal as its number alone.
class Table:
    def __init__(self):
        self.tops = []
        self.rules = []

    def begin(self, tops):
        if len(tops) < 1 or len(tops) > MOST_INPUTS:
            return [WRONG]
        self.tops = list(tops)
        self.rules = []
        return [0]

    def add_rule(self, outcome, bounds):
        # The document names -22 ahead of -28: a wrong rule is wrong in a full table too.
        if outcome > MOST_OUTCOME or not self.bounds_fit(bounds):
            return [WRONG]
        if len(self.rules) >= MOST_RULES:
            return [FULL]
        self.rules.append(Rule(outcome, bounds))
        return [len(self.rules) - 1]

    def bounds_fit(self, bounds):
        if len(bounds) != len(self.tops):
            return False
        for bound, top in zip(bounds, self.tops):
            if bound[0] > bound[1] or bound[1] > top:
                return False
        return True

    def drop_rule(self, k):
        if k >= len(self.rules):
            return [NOT_THERE]
        self.rules.pop(k)
        return [len(self.rules)]

    def move_rule(self, k, to):
        if k >= len(self.rules):
            return [NOT_THERE]
        if to >= len(self.rules):
            return [WRONG]
        moved = self.rules.pop(k)
        self.rules.insert(to, moved)
        return [0]

    def decide(self, case):
        if not self.is_case(case):
            return [WRONG]
        k = self.first_that_holds(case)
        if k is None:
            return [0]
        return [1, self.rules[k].outcome, k]

    def is_case(self, case):
        if len(case) != len(self.tops):
            return False
        for number, top in zip(case, self.tops):
            if number > top:
                return False
        return True

    def first_that_holds(self, case):
        for k, rule in enumerate(self.rules):
            if rule.holds(case):
                return k
        return None
