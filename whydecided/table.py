"""Rules in an order, over inputs that each go from 0 to a top; what they decide, and the earliest case decided so."""

MOST_INPUTS = 4
MOST_RULES = 10
MOST_OUTCOME = 255

NOT_THERE = -2
WRONG = -22
FULL = -28


class Rule:
    # bounds holds a pair (from, to) for each input, and both ends belong to it.
    def __init__(self, outcome, bounds):
        self.outcome = outcome
        self.bounds = bounds

    def holds(self, case):
        for number, bound in zip(case, self.bounds):
            if number < bound[0] or number > bound[1]:
                return False
        return True


# Each call gives back the list of numbers that it answers, a refusal as its number alone.
class Table:
    def __init__(self):
        self.tops = []
        self.rules = []

    def begin(self, tops):
        if len(tops) < 1 or len(tops) > MOST_INPUTS:
            return [WRONG]
        self.tops = list(tops)
        self.rules = []
        return [0]

    def add_rule(self, outcome, bounds):
        # The document names -22 ahead of -28: a wrong rule is wrong in a full table too.
        if outcome > MOST_OUTCOME or not self.bounds_fit(bounds):
            return [WRONG]
        if len(self.rules) >= MOST_RULES:
            return [FULL]
        self.rules.append(Rule(outcome, bounds))
        return [len(self.rules) - 1]

    def bounds_fit(self, bounds):
        if len(bounds) != len(self.tops):
            return False
        for bound, top in zip(bounds, self.tops):
            if bound[0] > bound[1] or bound[1] > top:
                return False
        return True

    def drop_rule(self, k):
        if k >= len(self.rules):
            return [NOT_THERE]
        self.rules.pop(k)
        return [len(self.rules)]

    def move_rule(self, k, to):
        if k >= len(self.rules):
            return [NOT_THERE]
        if to >= len(self.rules):
            return [WRONG]
        moved = self.rules.pop(k)
        self.rules.insert(to, moved)
        return [0]

    def decide(self, case):
        if not self.is_case(case):
            return [WRONG]
        k = self.first_that_holds(case)
        if k is None:
            return [0]
        return [1, self.rules[k].outcome, k]

    def is_case(self, case):
        if len(case) != len(self.tops):
            return False
        for number, top in zip(case, self.tops):
            if number > top:
                return False
        return True

    def first_that_holds(self, case):
        for k, rule in enumerate(self.rules):
            if rule.holds(case):
                return k
        return None

    # What's decided is told by one number: 0 for nothing, else one more than the outcome.
    def told_in(self, case):
        k = self.first_that_holds(case)
        return 0 if k is None else self.rules[k].outcome + 1

    # What's told where no rule holds, then for each rule what's told where it's the first that holds.
    def told_by_each(self):
        return [0] + [rule.outcome + 1 for rule in self.rules]

    # The rules whose bound of input k has this number in it, as bits, bit j for rule j.
    def allowing(self, k, number):
        bits = 0
        for j, rule in enumerate(self.rules):
            if rule.bounds[k][0] <= number <= rule.bounds[k][1]:
                bits |= 1 << j
        return bits

    # Only at these numbers of input k, going up, may other rules allow it than just before.
    def turns(self, k):
        found = [0]
        for rule in self.rules:
            found.append(rule.bounds[k][0])
            if rule.bounds[k][1] < self.tops[k]:
                found.append(rule.bounds[k][1] + 1)
        return sorted(set(found))

    # Pairs of a number of input k and the rules that allow it. Of the numbers that the same rules allow only the least
    # one is told: a case with another one isn't the earliest of its kind.
    def pieces(self, k):
        least = {}
        for number in self.turns(k):
            least.setdefault(self.allowing(k, number), number)
        return [(number, bits) for bits, number in least.items()]


# Looks for cases that have some inputs as a given case, and in which it's decided as wanted. wanted has a place for
# nothing, then one for each rule: True if it's wanted that just this rule is the first that holds.
class Search:
    def __init__(self, table, case, wanted):
        self.case = case
        self.wanted = wanted
        self.all_rules = (1 << len(table.rules)) - 1
        self.allowing_own = [table.allowing(k, number) for k, number in enumerate(case)]
        self.allowing_any = [table.pieces(k) for k in range(len(case))]
        self.known = {}

    # The earliest such case in which no inputs but the free ones, told as bits, are otherwise; None if there is none.
    def earliest(self, free_bits):
        free = []
        left = self.all_rules
        for k, bits in enumerate(self.allowing_own):
            if (free_bits >> k) & 1:
                free.append(k)
            else:
                left &= bits
        numbers = self.earliest_numbers(tuple(free), left)
        if numbers is None:
            return None
        found = list(self.case)
        for k, number in zip(free, numbers):
            found[k] = number
        return found

    # Numbers for the free inputs, where the rules left, told as bits, allow the numbers of all others.
    def earliest_numbers(self, free, left):
        if not free:
            place = (left & -left).bit_length()
            return [] if self.wanted[place] else None
        # Other numbers of the inputs ahead often leave the same rules, and then the search goes on just the same.
        key = (free, left)
        if key not in self.known:
            self.known[key] = self.try_pieces(free, left)
        return self.known[key]

    def try_pieces(self, free, left):
        for number, bits in self.allowing_any[free[0]]:
            numbers = self.earliest_numbers(free[1:], left & bits)
            if numbers is not None:
                return [number] + numbers
        return None
