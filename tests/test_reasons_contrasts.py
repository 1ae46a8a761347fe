import unittest

from calls import TOP, asked, begin, contrasts, decide, last, reasons, rule

ANY = (0, 9)
START = [begin(9, 9), rule(1, (3, 6), ANY), rule(2, ANY, (5, 5))]
FOUR = begin(9, 9, 9, 9)


class ReasonsAndContrasts(unittest.TestCase):
    def check(self, start, case, wanted_reasons, wanted_contrasts):
        with self.subTest(case=case):
            self.assertEqual(last(*start, reasons(*case)), wanted_reasons)
            self.assertEqual(last(*start, contrasts(*case)), wanted_contrasts)

    def test_how_many_and_which(self):
        self.check(START, (4, 2), [1, 1], [1, 1])
        self.check(START, (4, 5), [1, 1], [1, 1])
        self.check(START, (0, 5), [1, 3], [2, 1, 2])
        self.check(START, (0, 0), [1, 3], [2, 1, 2])

    def test_one_input_alone(self):
        self.check([begin(9), rule(1, (3, 6))], (4,), [1, 1], [1, 1])
        self.check([begin(9), rule(1, (3, 6))], (0,), [1, 1], [1, 1])

    def test_all_inputs_together(self):
        start = [FOUR, rule(1, *[(4, 9)] * 4)]
        self.check(start, (4, 5, 6, 7), [1, 15], [4, 1, 2, 4, 8])
        self.check(start, (0, 0, 0, 0), [4, 1, 2, 4, 8], [1, 15])

    def test_fewer_inputs_first(self):
        start = [FOUR, rule(1, ANY, ANY, ANY, (4, 9)), rule(1, (4, 9), (4, 9), ANY, ANY)]
        self.check(start, (5, 5, 5, 5), [2, 8, 3], [2, 9, 10])
        self.check(start, (0, 0, 0, 0), [2, 9, 10], [2, 8, 3])

    def test_of_like_ones_the_lesser_number(self):
        pairs = [rule(1, *[(4, 9) if k in pair else ANY for k in range(4)]) for pair in [(2, 3), (0, 3), (1, 2), (0, 1)]]
        self.check([FOUR, *pairs], (5, 5, 5, 5), [4, 3, 6, 9, 12], [2, 5, 10])

    def test_any_two_of_three(self):
        pairs = [rule(1, *[(4, 9) if k in pair else ANY for k in range(3)]) for pair in [(1, 2), (0, 2), (0, 1)]]
        start = [begin(9, 9, 9), *pairs]
        self.check(start, (5, 5, 5), [3, 3, 5, 6], [3, 3, 5, 6])
        self.check(start, (5, 0, 0), [1, 6], [2, 2, 4])

    def test_none_holds_another(self):
        start = [begin(9, 9, 9), rule(1, (4, 9), ANY, ANY), rule(1, (4, 9), (4, 9), ANY), rule(1, ANY, (4, 9), (4, 9))]
        self.check(start, (5, 5, 5), [2, 1, 6], [2, 3, 5])

    def test_everything_is_decided_alike(self):
        self.check([begin(9, 9), rule(1, ANY, ANY)], (4, 4), [1, 0], [0])
        self.check([begin(9, 9), rule(1, (0, 4), ANY), rule(1, (5, 9), ANY)], (4, 4), [1, 0], [0])
        self.check([begin(9, 9)], (4, 4), [1, 0], [0])

    def test_it_is_no_case(self):
        for case in [(), (1,), (1, 2, 3), (1, 2, 3, 4), [0] * 10, (10, 0), (0, 10), (TOP, TOP)]:
            self.check(START, case, [-22], [-22])

    def test_at_the_tops(self):
        self.check([begin(5, 9), rule(1, (5, 5), (0, 9))], (5, 9), [1, 1], [1, 1])
        self.check([begin(5, 9), rule(1, (5, 5), (0, 9))], (6, 9), [-22], [-22])

    def test_changes_nothing(self):
        calls = [reasons(0, 5), contrasts(0, 5), reasons(10, 5), contrasts(1), decide(0, 5), reasons(0, 5)]
        rows = asked(*START, *calls)
        self.assertEqual(rows[3:], [[1, 3], [2, 1, 2], [-22], [-22], [1, 2, 1], [1, 3]])


if __name__ == "__main__":
    unittest.main()
