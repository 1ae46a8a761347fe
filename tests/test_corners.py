"""Every corner that the document names, of forces, reasons, contrasts and way."""

import unittest

from calls import TOP, asked, begin, contrasts, decide, forces, reasons, rule, way

ANY = (0, 9)


class Corners(unittest.TestCase):
    def check(self, start, asked_and_wanted):
        calls = [call for call, wanted in asked_and_wanted]
        rows = asked(*start, *calls)[len(start):]
        for (call, wanted), row in zip(asked_and_wanted, rows):
            with self.subTest(call=call):
                self.assertEqual(row, wanted)

    def test_no_rules(self):
        self.check([begin(9, 9)], [
            (forces(0, 4, 2), [1]),
            (forces(3, 4, 2), [1]),
            (reasons(4, 2), [1, 0]),
            (contrasts(4, 2), [0]),
            (way(0, 4, 2), [0, 0, 4, 2]),
            (way(1, 4, 2), [-33]),
        ])

    def test_a_rule_that_holds_in_all_cases(self):
        self.check([begin(9, 9), rule(7, ANY, ANY), rule(8, (1, 2), (3, 4))], [
            (forces(0, 1, 3), [1]),
            (reasons(1, 3), [1, 0]),
            (contrasts(1, 3), [0]),
            (way(8, 1, 3), [0, 0, 1, 3]),
            (way(9, 1, 3), [-33]),
            (way(0, 1, 3), [-33]),
        ])

    def test_a_rule_that_holds_in_all_cases_behind_another(self):
        self.check([begin(9, 9), rule(8, (1, 2), (3, 4)), rule(7, ANY, ANY)], [
            (forces(0, 1, 3), [0, 0, 0]),
            (forces(0, 5, 5), [0, 1, 3]),
            (reasons(1, 3), [1, 3]),
            (reasons(5, 5), [2, 1, 2]),
            (contrasts(1, 3), [2, 1, 2]),
            (contrasts(5, 5), [1, 3]),
            (way(0, 1, 3), [-33]),
            (way(8, 1, 3), [1, 1, 0, 3]),
            (way(9, 5, 5), [2, 3, 1, 3]),
        ])

    def test_a_case_in_which_nothing_is_decided(self):
        self.check([begin(9, 9), rule(0, (3, 6), (2, 9))], [
            (decide(4, 1), [0]),
            (forces(0, 4, 1), [0, 3, 2]),
            (forces(1, 4, 1), [0, 4, 2]),
            (forces(2, 4, 1), [1]),
            (reasons(4, 1), [1, 2]),
            (contrasts(4, 1), [1, 2]),
            (way(0, 4, 1), [0, 0, 4, 1]),
            (way(1, 4, 1), [1, 2, 4, 2]),
            (way(1, 9, 1), [2, 3, 3, 2]),
        ])

    def test_a_decision_that_two_rules_make(self):
        self.check([begin(9), rule(5, (0, 3)), rule(5, (4, 6))], [
            (decide(2), [1, 5, 0]),
            (decide(5), [1, 5, 1]),
            (forces(0, 2), [0, 7]),
            (way(6, 9), [1, 1, 0]),
        ])
        self.check([begin(9, 9), rule(5, (0, 3), (0, 4)), rule(5, (4, 9), (0, 4))], [
            (forces(2, 1, 1), [1]),
            (reasons(1, 1), [1, 2]),
            (contrasts(1, 1), [1, 2]),
        ])

    def test_a_decision_that_two_rules_make_with_another_between(self):
        self.check([begin(9, 9), rule(5, (0, 3), ANY), rule(6, (4, 4), ANY), rule(5, ANY, ANY)], [
            (forces(0, 2, 2), [0, 4, 0]),
            (forces(0, 4, 2), [0, 0, 0]),
            (reasons(9, 2), [1, 1]),
            (contrasts(9, 2), [1, 1]),
        ])

    def test_an_input_that_no_rule_looks_at(self):
        self.check([begin(9, 9, 9), rule(5, (3, 4), ANY, (6, 7))], [
            (forces(5, 3, 8, 6), [1]),
            (forces(2, 3, 8, 6), [0, 0, 8, 0]),
            (forces(1, 3, 8, 6), [0, 3, 0, 0]),
            (reasons(3, 8, 6), [1, 5]),
            (contrasts(3, 8, 6), [2, 1, 4]),
            (way(0, 3, 8, 6), [1, 1, 0, 8, 6]),
            (way(6, 0, 8, 0), [2, 5, 3, 8, 6]),
        ])

    def test_an_input_that_must_be_just_one_number(self):
        self.check([begin(9, 9), rule(5, (4, 4), ANY)], [
            (forces(1, 4, 8), [1]),
            (forces(2, 4, 8), [0, 0, 8]),
            (forces(0, 3, 8), [0, 4, 0]),
            (forces(0, 5, 8), [0, 4, 0]),
            (way(6, 3, 8), [1, 1, 4, 8]),
            (way(6, 5, 8), [1, 1, 4, 8]),
            (way(0, 4, 8), [1, 1, 0, 8]),
        ])
        self.check([begin(9), rule(5, (0, 0))], [(way(0, 0), [1, 1, 1]), (forces(0, 0), [0, 1])])
        self.check([begin(9), rule(5, (9, 9))], [(way(6, 0), [1, 1, 9]), (forces(0, 0), [0, 9])])

    def test_two_reasons_without_a_common_input(self):
        self.check([begin(9, 9, 9, 9), rule(5, (1, 2), (3, 4), ANY, ANY), rule(5, ANY, ANY, (5, 6), (7, 8))], [
            (reasons(1, 3, 5, 7), [2, 3, 12]),
            (contrasts(1, 3, 5, 7), [4, 5, 6, 9, 10]),
            (forces(3, 1, 3, 5, 7), [1]),
            (forces(12, 1, 3, 5, 7), [1]),
            (forces(6, 1, 3, 5, 7), [0, 0, 3, 5, 0]),
            (way(0, 1, 3, 5, 7), [2, 5, 0, 3, 0, 7]),
        ])

    def test_a_way_by_one_input_of_two_that_would_do(self):
        self.check([begin(9, 9), rule(5, (3, 9), ANY), rule(5, ANY, (3, 9))], [
            (way(6, 0, 0), [1, 1, 3, 0]),
            (way(0, 3, 3), [2, 3, 0, 0]),
        ])
        self.check([begin(9, 9), rule(5, (3, 9), (3, 9))], [(way(0, 4, 4), [1, 1, 0, 4])])

    def test_a_top_of_nought(self):
        self.check([begin(0, 9), rule(5, (0, 0), (3, 4))], [
            (forces(1, 0, 3), [0, 0, 0]),
            (forces(2, 0, 3), [1]),
            (forces(0, 1, 3), [-22]),
            (reasons(0, 3), [1, 2]),
            (contrasts(0, 3), [1, 2]),
            (way(6, 0, 9), [1, 2, 0, 3]),
        ])
        self.check([begin(0), rule(5, (0, 0))], [
            (forces(0, 0), [1]),
            (reasons(0), [1, 0]),
            (contrasts(0), [0]),
            (way(6, 0), [0, 0, 0]),
            (way(0, 0), [-33]),
            (way(0, 1), [-22]),
        ])

    def test_an_outcome_that_no_rule_has(self):
        self.check([begin(9), rule(5, (3, 4))], [(way(t, 3), [-33]) for t in [1, 5, 7, 256]])

    def test_greatest_tops(self):
        self.check([begin(TOP, TOP), rule(5, (TOP, TOP), (0, TOP)), rule(6, (0, TOP), (TOP - 1, TOP))], [
            (forces(1, TOP, TOP), [1]),
            (forces(2, TOP, TOP), [0, 0, TOP]),
            (forces(1, 0, TOP), [0, 0, 0]),
            (forces(2, 0, TOP), [0, TOP, TOP]),
            (forces(0, 0, 0), [0, 0, TOP - 1]),
            (forces(2, 0, 0), [0, TOP, 0]),
            (reasons(0, TOP - 1), [1, 3]),
            (contrasts(0, TOP - 1), [2, 1, 2]),
            (reasons(TOP, TOP), [1, 1]),
            (way(6, 0, 7), [1, 1, TOP, 7]),
            (way(7, 3, 7), [1, 2, 3, TOP - 1]),
            (way(7, TOP, 7), [2, 3, 0, TOP - 1]),
            (way(0, TOP, TOP), [2, 3, 0, 0]),
        ])

    def test_greatest_tops_of_four_inputs(self):
        self.check([begin(TOP, TOP, TOP, TOP), rule(255, *[(0, TOP - 1)] * 4)], [
            (forces(0, 0, 0, 0, 0), [0, 0, 0, 0, TOP]),
            (forces(8, 0, 0, 0, 0), [0, 0, 0, TOP, 0]),
            (forces(8, 0, 0, 0, TOP), [1]),
            (reasons(0, 0, 0, 0), [1, 15]),
            (reasons(TOP, 0, TOP, 0), [2, 1, 4]),
            (contrasts(TOP, 0, TOP, 0), [1, 5]),
            (way(0, 5, 5, 5, 5), [1, 1, TOP, 5, 5, 5]),
            (way(256, TOP, 5, 5, TOP), [2, 9, 0, 5, 5, 0]),
        ])


if __name__ == "__main__":
    unittest.main()
