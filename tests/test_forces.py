import unittest

from calls import TOP, asked, begin, decide, forces, last, rule

START = [begin(9, 9), rule(1, (3, 6), (0, 9)), rule(2, (0, 9), (5, 5))]
BOTH = [begin(9, 9), rule(1, (3, 9), (0, 9)), rule(1, (0, 2), (0, 9))]


class Forces(unittest.TestCase):
    def check(self, start, inputs, case, wanted):
        with self.subTest(inputs=inputs, case=case):
            self.assertEqual(last(*start, forces(inputs, *case)), wanted)

    def test_forces_it(self):
        self.check(START, 1, (4, 2), [1])
        self.check(START, 1, (4, 5), [1])
        self.check(START, 3, (0, 5), [1])

    def test_the_earliest_case_in_which_nothing_is_decided(self):
        self.check(START, 2, (4, 2), [0, 0, 2])
        self.check(START, 1, (1, 5), [0, 1, 0])
        self.check(START, 1, (9, 5), [0, 9, 0])

    def test_the_earliest_case_in_which_something_else_is_decided(self):
        self.check(START, 2, (0, 5), [0, 3, 5])
        self.check(START, 2, (4, 5), [0, 0, 5])

    def test_the_earliest_case_in_which_something_is_decided_where_it_was_nothing(self):
        self.check(START, 1, (0, 0), [0, 0, 5])
        self.check(START, 2, (0, 0), [0, 3, 0])
        self.check(START, 0, (0, 0), [0, 0, 5])

    def test_behind_a_bound_not_only_ahead_of_it(self):
        start = [begin(9), rule(1, (0, 6))]
        self.check(start, 0, (3,), [0, 7])
        self.check([begin(9), rule(1, (0, 2)), rule(2, (3, 4)), rule(1, (5, 9))], 0, (9,), [0, 3])

    def test_the_earlier_case_has_the_lesser_number_at_the_first_input(self):
        start = [begin(9, 9), rule(1, (2, 2), (0, 0)), rule(1, (1, 1), (9, 9))]
        self.check(start, 0, (5, 5), [0, 1, 9])

    def test_a_free_input_is_as_small_as_it_can_be(self):
        self.check([begin(9, 9), rule(1, (4, 9), (0, 9))], 0, (8, 7), [0, 0, 0])
        self.check([begin(9, 9), rule(1, (0, 9), (0, 6))], 0, (8, 4), [0, 0, 7])
        self.check([begin(9, 9), rule(1, (0, 9), (0, 6))], 1, (8, 4), [0, 8, 7])

    def test_the_empty_set(self):
        self.check(START, 0, (4, 2), [0, 0, 0])
        self.check(START, 0, (0, 5), [0, 0, 0])
        self.check(BOTH, 0, (0, 5), [1])

    def test_the_set_of_all_inputs(self):
        for case in [(4, 2), (0, 5), (0, 0), (9, 9)]:
            self.check(START, 3, case, [1])
        self.check([begin(9)], 1, (9,), [1])
        self.check([begin(9, 9, 9, 9), rule(1, *[(4, 4)] * 4)], 15, (4, 4, 4, 4), [1])

    def test_each_input_of_four_is_its_own_bit(self):
        start = [begin(9, 9, 9, 9), rule(1, *[(4, 9)] * 4)]
        for k in range(4):
            case = [5, 6, 7, 8]
            case[k] = 0
            self.check(start, 15 - 2 ** k, (5, 6, 7, 8), [0, *case])

    def test_another_rule_with_the_same_outcome_is_no_other_decision(self):
        self.check(BOTH, 0, (5, 5), [1])
        self.check(BOTH, 2, (1, 5), [1])

    def test_outcome_nought_is_not_nothing(self):
        self.check([begin(9), rule(0, (3, 4))], 0, (3,), [0, 0])
        self.check([begin(9), rule(0, (3, 4))], 0, (2,), [0, 3])

    def test_a_case_of_a_wrong_length(self):
        for length in [0, 1, 3, 4, 5, 10]:
            self.check(START, 0, [0] * length, [-22])
            self.check(START, 3, [0] * length, [-22])

    def test_a_number_above_its_top(self):
        start = [begin(5, 9), rule(1, (0, 5), (0, 9))]
        self.check(start, 1, (5, 9), [1])
        self.check(start, 1, (6, 9), [-22])
        self.check(start, 1, (5, 10), [-22])
        self.check(start, 0, (TOP, TOP), [-22])

    def test_a_bit_of_no_input(self):
        for inputs in [4, 5, 7, 8, 16, 1024, 2 ** 31, TOP]:
            self.check(START, inputs, (4, 2), [-22])
        self.check([begin(9)], 2, (4,), [-22])
        self.check([begin(9, 9, 9, 9)], 16, (4, 4, 4, 4), [-22])

    def test_a_bit_of_no_input_and_no_case_too(self):
        self.check(START, TOP, (4, 10), [-22])
        self.check(START, 4, (4,), [-22])
        self.check(START, 4, (4, 2, 2), [-22])

    def test_changes_nothing(self):
        rows = asked(*START, forces(2, 4, 2), forces(4, 4, 2), forces(1, 4, 2), decide(4, 2), forces(2, 4, 2))
        self.assertEqual(rows[3:], [[0, 0, 2], [-22], [1], [1, 1, 0], [0, 0, 2]])


if __name__ == "__main__":
    unittest.main()
