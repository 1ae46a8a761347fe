import unittest

from calls import TOP, asked, begin, decide, last, rule, way

ANY = (0, 9)
START = [begin(9, 9), rule(1, (3, 6), ANY), rule(2, ANY, (5, 5))]


class Way(unittest.TestCase):
    def check(self, start, t, case, wanted):
        with self.subTest(t=t, case=case):
            self.assertEqual(last(*start, way(t, *case)), wanted)

    def test_by_one_input(self):
        self.check(START, 0, (4, 2), [1, 1, 0, 2])
        self.check(START, 2, (1, 2), [1, 1, 3, 2])
        self.check(START, 3, (1, 2), [1, 2, 1, 5])

    def test_by_two_inputs(self):
        self.check(START, 3, (4, 2), [2, 3, 0, 5])

    def test_it_is_so_already(self):
        self.check(START, 2, (4, 2), [0, 0, 4, 2])
        self.check(START, 3, (8, 5), [0, 0, 8, 5])
        self.check(START, 0, (9, 9), [0, 0, 9, 9])

    def test_fewer_inputs_ahead_of_an_earlier_case(self):
        start = [begin(9, 9), rule(1, (0, 0), (0, 0)), rule(1, (9, 9), (7, 7))]
        self.check(start, 2, (8, 7), [1, 1, 9, 7])

    def test_fewer_inputs_ahead_of_a_set_of_a_lesser_number(self):
        start = [begin(9, 9, 9), rule(1, (9, 9), (9, 9), (0, 3)), rule(1, (0, 5), (0, 5), (8, 9))]
        self.check(start, 2, (4, 4, 2), [1, 4, 4, 4, 8])

    def test_of_like_sets_the_lesser_number_though_another_has_an_earlier_case(self):
        self.check([begin(9, 9), rule(1, (0, 4), (0, 4))], 0, (2, 2), [1, 1, 5, 2])
        start = [begin(9, 9, 9), rule(1, (0, 4), (0, 9), (0, 4)), rule(1, (0, 9), (0, 4), (0, 4))]
        self.check(start, 0, (2, 2, 2), [1, 4, 2, 2, 5])

    def test_all_sets_of_two_in_order(self):
        for pair, number in [((0, 1), 3), ((0, 2), 5), ((1, 2), 6), ((0, 3), 9), ((1, 3), 10), ((2, 3), 12)]:
            bounds = [(7, 8) if k in pair else ANY for k in range(4)]
            case = [7 if k in pair else k for k in range(4)]
            self.check([begin(9, 9, 9, 9), rule(1, *bounds)], 2, (0, 1, 2, 3), [2, number, *case])

    def test_by_all_four_inputs(self):
        start = [begin(9, 9, 9, 9), rule(1, (4, 9), (5, 9), (6, 9), (7, 9))]
        self.check(start, 2, (0, 1, 2, 3), [4, 15, 4, 5, 6, 7])
        self.check(start, 0, (9, 9, 9, 9), [1, 1, 0, 9, 9, 9])

    def test_the_earliest_such_case(self):
        start = [begin(9, 9), rule(1, (8, 9), ANY), rule(1, (2, 3), ANY)]
        self.check(start, 2, (6, 6), [1, 1, 2, 6])
        self.check([begin(9, 9), rule(1, (4, 4), (2, 2)), rule(1, (3, 3), (8, 8))], 2, (0, 0), [2, 3, 3, 8])

    def test_a_rule_that_is_hidden_by_another(self):
        self.check([begin(9), rule(1, (0, 5)), rule(2, (4, 7))], 3, (0,), [1, 1, 6])
        self.check([begin(9), rule(1, (0, 5)), rule(2, (4, 5))], 3, (0,), [-33])
        self.check([begin(9), rule(1, (0, 4)), rule(1, (5, 9)), rule(2, (0, 9))], 3, (0,), [-33])

    def test_nothing_is_asked_for(self):
        self.check([begin(9), rule(0, (0, 5))], 0, (0,), [1, 1, 6])
        self.check([begin(9), rule(0, (0, 9))], 0, (0,), [-33])
        self.check([begin(9)], 0, (3,), [0, 0, 3])

    def test_one_more_than_the_outcome(self):
        start = [begin(9), rule(0, (2, 3)), rule(255, (4, 5)), rule(1, (6, 6))]
        self.check(start, 1, (9,), [1, 1, 2])
        self.check(start, 256, (9,), [1, 1, 4])
        self.check(start, 2, (9,), [1, 1, 6])
        self.check(start, 1, (3,), [0, 0, 3])
        self.check(start, 256, (5,), [0, 0, 5])

    def test_in_no_case_it_is_so(self):
        for t in [1, 4, 255, 256]:
            self.check(START, t, (4, 2), [-33])
        self.check([begin(9)], 1, (3,), [-33])

    def test_what_is_asked_for_is_above_any(self):
        for t in [257, 258, 512, TOP]:
            self.check(START, t, (4, 2), [-22])
        self.check([begin(9), rule(255, (0, 9))], 257, (4,), [-22])

    def test_it_is_no_case(self):
        for case in [(), (1,), (1, 2, 3), (1, 2, 3, 4), [0] * 10, (10, 0), (0, 10), (TOP, TOP)]:
            for t in [0, 2, 4, 256, 257]:
                self.check(START, t, case, [-22])

    def test_changes_nothing(self):
        calls = [way(3, 4, 2), way(4, 4, 2), way(257, 4, 2), way(2, 10, 2), decide(4, 2), way(3, 4, 2)]
        rows = asked(*START, *calls)
        self.assertEqual(rows[3:], [[2, 3, 0, 5], [-33], [-22], [-22], [1, 1, 0], [2, 3, 0, 5]])


if __name__ == "__main__":
    unittest.main()
