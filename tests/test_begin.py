import unittest

from calls import TOP, asked, begin, decide, drop, last, rule


class Begin(unittest.TestCase):
    def test_one_to_four_tops(self):
        for count in range(1, 5):
            with self.subTest(count=count):
                self.assertEqual(asked(begin(*[7] * count)), [[0]])

    def test_no_tops_and_five_to_ten_are_wrong(self):
        for count in [0, 5, 6, 7, 8, 9, 10]:
            with self.subTest(count=count):
                self.assertEqual(asked(begin(*[7] * count)), [[-22]])

    def test_refused_first_then_taken(self):
        self.assertEqual(asked(begin(), begin(1, 2, 3, 4, 5), begin(3), decide(3)), [[-22], [-22], [0], [0]])

    def test_there_are_as_many_inputs_as_tops(self):
        for count in range(1, 5):
            for length in range(0, 11):
                with self.subTest(count=count, length=length):
                    wanted = [0] if length == count else [-22]
                    self.assertEqual(last(begin(*[7] * count), decide(*[7] * length)), wanted)

    def test_each_input_has_its_own_top(self):
        start = begin(0, 1, 2, 3)
        self.assertEqual(last(start, decide(0, 1, 2, 3)), [0])
        for case in [(1, 1, 2, 3), (0, 2, 2, 3), (0, 1, 3, 3), (0, 1, 2, 4)]:
            with self.subTest(case=case):
                self.assertEqual(last(start, decide(*case)), [-22])

    def test_again_takes_the_rules_away(self):
        rows = asked(begin(9), rule(5, (0, 9)), decide(4), begin(9), decide(4), drop(0), rule(6, (0, 9)))
        self.assertEqual(rows, [[0], [0], [1, 5, 0], [0], [0], [-2], [0]])

    def test_again_sets_other_tops(self):
        rows = asked(begin(9), begin(3, 20), decide(4), decide(3, 20), decide(4, 20), decide(3, 21))
        self.assertEqual(rows, [[0], [0], [-22], [0], [-22], [-22]])

    def test_again_after_ten_rules_there_is_room(self):
        full = [rule(1, (0, 9)) for k in range(10)]
        self.assertEqual(last(begin(9), *full, rule(1, (0, 9))), [-28])
        self.assertEqual(last(begin(9), *full, begin(9), rule(1, (0, 9))), [0])

    def test_refused_changes_nothing(self):
        for wrong in [begin(), begin(1, 1, 1, 1, 1), begin(*[0] * 10)]:
            with self.subTest(wrong=wrong):
                rows = asked(begin(9), rule(5, (2, 9)), wrong, decide(9), decide(10), decide(1), drop(0))
                self.assertEqual(rows, [[0], [0], [-22], [1, 5, 0], [-22], [0], [0]])

    def test_a_top_of_nought(self):
        rows = asked(begin(0), rule(1, (0, 1)), rule(1, (1, 1)), rule(8, (0, 0)), decide(0), decide(1))
        self.assertEqual(rows, [[0], [-22], [-22], [0], [1, 8, 0], [-22]])

    def test_the_greatest_top(self):
        rows = asked(begin(TOP), rule(3, (TOP, TOP)), rule(4, (0, TOP)), decide(TOP), decide(TOP - 1), decide(0))
        self.assertEqual(rows, [[0], [0], [1], [1, 3, 0], [1, 4, 1], [1, 4, 1]])

    def test_four_greatest_tops(self):
        whole = [(0, TOP)] * 4
        rows = asked(begin(TOP, TOP, TOP, TOP), rule(9, *whole), decide(TOP, 0, TOP, 0))
        self.assertEqual(rows, [[0], [0], [1, 9, 0]])


if __name__ == "__main__":
    unittest.main()
