import unittest

from calls import TOP, asked, begin, decide, drop, last, rule


class RuleNumbers(unittest.TestCase):
    def test_numbers_from_nought(self):
        rows = asked(begin(9), *[rule(k, (0, 9)) for k in range(10)])
        self.assertEqual(rows, [[0]] + [[k] for k in range(10)])

    def test_the_new_one_is_the_last(self):
        rows = asked(begin(9), rule(1, (0, 4)), rule(2, (0, 9)), decide(4), decide(5))
        self.assertEqual(rows[3:], [[1, 1, 0], [1, 2, 1]])

    def test_number_after_a_drop(self):
        self.assertEqual(last(begin(9), rule(1, (0, 9)), rule(2, (0, 9)), drop(0), rule(3, (0, 9))), [1])

    def test_the_same_rule_twice(self):
        self.assertEqual(asked(begin(9), rule(1, (2, 3)), rule(1, (2, 3)), decide(2)), [[0], [0], [1], [1, 1, 0]])


class RuleIsWrong(unittest.TestCase):
    def test_outcome_up_to_255(self):
        for outcome in [0, 1, 254, 255]:
            with self.subTest(outcome=outcome):
                self.assertEqual(asked(begin(9), rule(outcome, (0, 9)), decide(0))[1:], [[0], [1, outcome, 0]])

    def test_outcome_above_255(self):
        for outcome in [256, 257, 65536, TOP]:
            with self.subTest(outcome=outcome):
                self.assertEqual(last(begin(9), rule(outcome, (0, 9))), [-22])

    def test_as_many_bounds_as_inputs(self):
        for inputs in range(1, 5):
            for bounds in range(0, 11):
                with self.subTest(inputs=inputs, bounds=bounds):
                    wanted = [0] if bounds == inputs else [-22]
                    self.assertEqual(last(begin(*[9] * inputs), rule(1, *[(0, 9)] * bounds)), wanted)

    def test_from_at_and_above_its_to(self):
        self.assertEqual(last(begin(9), rule(1, (5, 5))), [0])
        self.assertEqual(last(begin(9), rule(1, (6, 5))), [-22])
        self.assertEqual(last(begin(9), rule(1, (TOP, 0))), [-22])

    def test_to_at_and_above_the_top(self):
        self.assertEqual(last(begin(9), rule(1, (0, 9))), [0])
        self.assertEqual(last(begin(9), rule(1, (9, 9))), [0])
        self.assertEqual(last(begin(9), rule(1, (0, 10))), [-22])
        self.assertEqual(last(begin(9), rule(1, (10, 10))), [-22])
        self.assertEqual(last(begin(TOP - 1), rule(1, (0, TOP))), [-22])

    def test_one_wrong_bound_at_any_input(self):
        start = begin(9, 8, 7, 6)
        good = [(0, 9), (0, 8), (0, 7), (0, 6)]
        self.assertEqual(last(start, rule(1, *good)), [0])
        for place in range(4):
            for wrong in [(3, 2), (0, good[place][1] + 1)]:
                with self.subTest(place=place, wrong=wrong):
                    bounds = good[:place] + [wrong] + good[place + 1:]
                    self.assertEqual(last(start, rule(1, *bounds)), [-22])


class RuleIsOneTooMany(unittest.TestCase):
    full = [rule(k, (k, k)) for k in range(10)]

    def test_the_eleventh(self):
        self.assertEqual(last(begin(9), *self.full, rule(1, (0, 9))), [-28])

    def test_the_eleventh_and_wrong(self):
        for wrong in [rule(256, (0, 9)), rule(1), rule(1, (0, 9), (0, 9)), rule(1, (5, 4)), rule(1, (0, 10))]:
            with self.subTest(wrong=wrong):
                self.assertEqual(last(begin(9), *self.full, wrong), [-22])

    def test_room_again_after_a_drop(self):
        rows = asked(begin(9), *self.full, drop(3), rule(77, (3, 3)), rule(78, (0, 9)), decide(3))
        self.assertEqual(rows[11:], [[9], [9], [-28], [1, 77, 9]])


class RefusedRuleChangesNothing(unittest.TestCase):
    def test_wrong(self):
        for wrong in [rule(256, (0, 9)), rule(1), rule(1, (0, 9), (0, 9)), rule(1, (9, 0)), rule(1, (0, 10))]:
            with self.subTest(wrong=wrong):
                rows = asked(begin(9), rule(7, (2, 3)), wrong, decide(2), decide(4), rule(8, (4, 4)), decide(4))
                self.assertEqual(rows, [[0], [0], [-22], [1, 7, 0], [0], [1], [1, 8, 1]])

    def test_one_too_many(self):
        full = [rule(k, (k, k)) for k in range(10)]
        rows = asked(begin(10), *full, rule(99, (0, 10)), decide(10), decide(9), drop(10), drop(9))
        self.assertEqual(rows[11:], [[-28], [0], [1, 9, 9], [-2], [9]])


if __name__ == "__main__":
    unittest.main()
