"""Holds the answers against every case there is, on many small tables, and on such tables stretched to great tops."""

import random
import unittest

from calls import TOP, asked, begin, contrasts, forces, reasons, rule, way
from everycase import random_table

TOLD = [0, 1, 2, 3, 256]


def some_cases(source, table, count):
    return source.sample(table.cases, min(count, len(table.cases)))


def parts(inputs):
    return [part for part in range(inputs) if part | inputs == inputs]


class EveryTable(unittest.TestCase):
    def walk(self, seed, count, most_cases, check):
        source = random.Random(seed)
        for number in range(count):
            table = random_table(source, most_cases)
            for case in some_cases(source, table, 4):
                with self.subTest(table=number, tops=table.tops, rules=table.rules, case=case):
                    check(table, case)

    def ask(self, table, *calls):
        return asked(*table.start, *calls)[len(table.start):]


class AsTheDocumentSays(EveryTable):
    def check_forces(self, table, case):
        rows = self.ask(table, *[forces(inputs, *case) for inputs in table.sets])
        self.assertEqual(rows, [table.forces(inputs, case) for inputs in table.sets])

    def check_reasons_and_contrasts(self, table, case):
        rows = self.ask(table, reasons(*case), contrasts(*case))
        self.assertEqual(rows, [table.reasons(case), table.contrasts(case)])

    def check_way(self, table, case):
        rows = self.ask(table, *[way(t, *case) for t in TOLD])
        self.assertEqual(rows, [table.way(t, case) for t in TOLD])

    def test_forces(self):
        self.walk(501, 150, 300, self.check_forces)

    def test_reasons_and_contrasts(self):
        self.walk(502, 150, 300, self.check_reasons_and_contrasts)

    def test_way(self):
        self.walk(503, 150, 300, self.check_way)


class WhatHolds(EveryTable):
    def sets_told(self, table, call):
        row = self.ask(table, call)[0]
        self.assertEqual(row[0], len(row) - 1)
        self.assertEqual(row[1:], [inputs for inputs in table.sets if inputs in row[1:]])
        return row[1:]

    def check_least(self, table, told, does):
        for inputs in told:
            self.assertTrue(does(inputs))
            for part in parts(inputs):
                self.assertFalse(does(part))
        for inputs in table.sets:
            self.assertEqual(does(inputs), any(part | inputs == inputs for part in told))

    def check_reasons(self, table, case):
        told = self.sets_told(table, reasons(*case))
        self.assertGreaterEqual(len(told), 1)
        self.check_least(table, told, lambda inputs: table.does_force(inputs, case))

    def check_contrasts(self, table, case):
        told = self.sets_told(table, contrasts(*case))
        self.check_least(table, told, lambda inputs: table.can_change(inputs, case))

    def check_common_inputs(self, table, case):
        hung = self.sets_told(table, contrasts(*case))
        why = self.sets_told(table, reasons(*case))
        rows = self.ask(table, *[forces(inputs, *case) for inputs in table.sets])
        for inputs, row in zip(table.sets, rows):
            self.assertEqual(row == [1], all(inputs & one for one in hung))
            other_row = rows[table.sets.index(table.whole - inputs)]
            self.assertEqual(other_row != [1], all(inputs & one for one in why))
        self.assertTrue(all(one & other for one in hung for other in why))

    def check_told_case(self, table, case):
        for inputs, row in zip(table.sets, self.ask(table, *[forces(inputs, *case) for inputs in table.sets])):
            others = table.otherwise(inputs, case)
            self.assertEqual(row[0], 0 if others else 1)
            if others:
                self.assertIn(tuple(row[1:]), others)
                self.assertEqual(tuple(row[1:]), min(others))

    def check_way(self, table, case):
        for t, row in zip(TOLD, self.ask(table, *[way(t, *case) for t in TOLD])):
            fit = [other for other in table.cases if table.told[other] == t]
            self.assertEqual(row == [-33], fit == [])
            if fit:
                count, inputs, *found = row
                self.assertEqual(table.told[tuple(found)], t)
                self.assertEqual(table.differing(case, found), inputs)
                self.assertEqual(bin(inputs).count("1"), count)
                sizes = [bin(table.differing(case, other)).count("1") for other in fit]
                self.assertEqual(count, min(sizes))
                within = [other for other in fit if table.differing(case, other) | inputs == inputs]
                self.assertEqual(tuple(found), min(within))

    def test_of_reasons(self):
        self.walk(601, 120, 200, self.check_reasons)

    def test_of_contrasts(self):
        self.walk(602, 120, 200, self.check_contrasts)

    def test_of_common_inputs(self):
        self.walk(603, 200, 1300, self.check_common_inputs)

    def test_of_the_case_that_forces_tells(self):
        self.walk(604, 120, 200, self.check_told_case)

    def test_of_ways(self):
        self.walk(605, 120, 200, self.check_way)


class Stretched(EveryTable):
    """Each number of a small table becomes as many, so that the last one ends at the greatest number there is."""

    def stretch(self, source, table):
        self.low = []
        for top in table.tops:
            self.low.append([0] + sorted(source.sample(range(1, TOP + 1), top)) + [TOP + 1])
        start = [begin(*[TOP] * len(table.tops))]
        for outcome, bounds in table.rules:
            start.append(rule(outcome, *[(low[a], low[b + 1] - 1) for low, (a, b) in zip(self.low, bounds)]))
        return start

    def within(self, source, case):
        return [source.choice([low[n], low[n + 1] - 1, source.randrange(low[n], low[n + 1])])
                for low, n in zip(self.low, case)]

    def stretched_case(self, own, found, free):
        return [low[n] if free & 2 ** k else own[k] for k, (low, n) in enumerate(zip(self.low, found))]

    def wanted_forces(self, table, inputs, case, own):
        row = table.forces(inputs, case)
        return row if row == [1] else [0, *self.stretched_case(own, row[1:], table.whole - inputs)]

    def wanted_way(self, table, t, case, own):
        row = table.way(t, case)
        return row if row == [-33] else row[:2] + self.stretched_case(own, row[2:], row[1])

    def check(self, source, table, case):
        start = self.stretch(source, table)
        own = self.within(source, case)
        calls = [forces(inputs, *own) for inputs in table.sets] + [way(t, *own) for t in TOLD]
        rows = asked(*start, *calls, reasons(*own), contrasts(*own))[len(start):]
        wanted = [self.wanted_forces(table, inputs, case, own) for inputs in table.sets]
        wanted += [self.wanted_way(table, t, case, own) for t in TOLD]
        self.assertEqual(rows, wanted + [table.reasons(case), table.contrasts(case)])

    def test_up_to_the_greatest_number(self):
        source = random.Random(701)
        self.walk(702, 100, 200, lambda table, case: self.check(source, table, case))


if __name__ == "__main__":
    unittest.main()
