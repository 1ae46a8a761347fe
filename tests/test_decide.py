import random
import unittest

from calls import TOP, asked, begin, decide, drop, first_difference, last, move, rule
from everycase import painted, random_bounds


class Decide(unittest.TestCase):
    def test_outcome_and_which_rule(self):
        rows = asked(begin(99), rule(7, (18, 65)), rule(0, (66, 99)), decide(30), decide(80))
        self.assertEqual(rows[3:], [[1, 7, 0], [1, 0, 1]])

    def test_the_first_of_several_that_hold(self):
        rules = [rule(1, (0, 2)), rule(2, (3, 9)), rule(3, (0, 9)), rule(4, (3, 9))]
        rows = asked(begin(10), *rules, decide(2), decide(3), decide(9), decide(10))
        self.assertEqual(rows[5:], [[1, 1, 0], [1, 2, 1], [1, 2, 1], [0]])

    def test_nothing_is_decided(self):
        self.assertEqual(last(begin(9), decide(4)), [0])
        self.assertEqual(last(begin(9), rule(1, (0, 3)), rule(2, (5, 9)), decide(4)), [0])

    def test_outcome_nought_is_something(self):
        self.assertEqual(last(begin(9), rule(0, (0, 9)), decide(4)), [1, 0, 0])

    def test_at_a_bound_and_beside_it(self):
        rows = asked(begin(9), rule(5, (3, 6)), decide(2), decide(3), decide(6), decide(7))
        self.assertEqual(rows[2:], [[0], [1, 5, 0], [1, 5, 0], [0]])

    def test_at_a_bound_of_each_input(self):
        start = [begin(9, 9, 9, 9), rule(5, *[(3, 6)] * 4)]
        for place in range(4):
            for number, wanted in [(2, [0]), (3, [1, 5, 0]), (6, [1, 5, 0]), (7, [0])]:
                with self.subTest(place=place, number=number):
                    case = [4, 4, 4, 4]
                    case[place] = number
                    self.assertEqual(last(*start, decide(*case)), wanted)

    def test_at_bounds_near_the_greatest_number(self):
        rows = asked(begin(TOP), rule(5, (TOP - 2, TOP - 1)), *[decide(TOP - k) for k in range(4)])
        self.assertEqual(rows[2:], [[0], [1, 5, 0], [1, 5, 0], [0]])

    def test_a_bound_of_just_one_number(self):
        rows = asked(begin(9), rule(5, (4, 4)), decide(3), decide(4), decide(5))
        self.assertEqual(rows[2:], [[0], [1, 5, 0], [0]])

    def test_rules_that_meet_and_leave_one_number_out(self):
        rows = asked(begin(9), rule(1, (0, 3)), rule(2, (5, 9)), decide(3), decide(4), decide(5))
        self.assertEqual(rows[3:], [[1, 1, 0], [0], [1, 2, 1]])

    def test_a_case_of_a_wrong_length(self):
        for length in [0, 1, 3, 4, 5, 10]:
            with self.subTest(length=length):
                self.assertEqual(last(begin(9, 9), rule(1, (0, 9), (0, 9)), decide(*[0] * length)), [-22])

    def test_a_number_above_its_top(self):
        start = [begin(5, 9), rule(1, (0, 5), (0, 9))]
        for case, wanted in [((5, 9), [1, 1, 0]), ((6, 9), [-22]), ((5, 10), [-22]), ((TOP, 0), [-22])]:
            with self.subTest(case=case):
                self.assertEqual(last(*start, decide(*case)), wanted)

    def test_changes_nothing(self):
        rows = asked(begin(9), rule(1, (0, 4)), decide(10), decide(), decide(4), decide(5), decide(4), drop(0))
        self.assertEqual(rows[2:], [[-22], [-22], [1, 1, 0], [0], [1, 1, 0], [0]])


class DecideManyCases(unittest.TestCase):
    def check_table(self, source):
        tops = [source.randint(0, 4) for k in range(source.randint(1, 4))]
        rules = [(source.randint(0, 255), random_bounds(source, tops)) for k in range(source.randint(0, 10))]
        start = [begin(*tops)] + [rule(outcome, *bounds) for outcome, bounds in rules]
        if rules:
            k, to, gone = [source.randrange(len(rules)) for which in range(3)]
            start += [move(k, to), drop(gone)]
            rules.insert(to, rules.pop(k))
            del rules[gone]
        picture = painted(tops, rules)
        cases = source.sample(sorted(picture), min(len(picture), 280))
        rows = asked(*start, *[decide(*case) for case in cases])
        self.assertIsNone(first_difference(rows[len(start):], [picture[case] for case in cases]))

    def test_against_a_painted_table(self):
        source = random.Random(20261116)
        for table in range(150):
            with self.subTest(table=table):
                self.check_table(source)


if __name__ == "__main__":
    unittest.main()
