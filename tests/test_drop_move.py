import unittest

from calls import TOP, asked, begin, decide, drop, last, move, rule

# Every rule holds in every case, and each case tells the first rule, so that dropping from the front shows the order.
ALIKE = [begin(0)] + [rule(10 + k, (0, 0)) for k in range(4)]


def order_after(*calls):
    shown = []
    for count in range(4):
        shown.append(last(*ALIKE, *calls, *[drop(0)] * count, decide(0)))
    return [row[1] - 10 if len(row) == 3 else None for row in shown]


class Drop(unittest.TestCase):
    def test_how_many_are_left(self):
        self.assertEqual(asked(*ALIKE, drop(3), drop(1), drop(0), drop(0))[5:], [[3], [2], [1], [0]])

    def test_no_such_rule(self):
        for k in [4, 5, 10, TOP]:
            with self.subTest(k=k):
                self.assertEqual(last(*ALIKE, drop(k)), [-2])

    def test_no_rules_at_all(self):
        self.assertEqual(asked(begin(9), drop(0), drop(TOP)), [[0], [-2], [-2]])

    def test_the_last_one_is_gone_then(self):
        self.assertEqual(asked(*ALIKE, drop(3), drop(3))[5:], [[3], [-2]])

    def test_those_behind_come_one_up(self):
        apart = [begin(3)] + [rule(10 + k, (k, k)) for k in range(4)]
        rows = asked(*apart, drop(1), decide(0), decide(1), decide(2), decide(3))
        self.assertEqual(rows[5:], [[3], [1, 10, 0], [0], [1, 12, 1], [1, 13, 2]])

    def test_each_of_four(self):
        self.assertEqual(order_after(drop(0)), [1, 2, 3, None])
        self.assertEqual(order_after(drop(1)), [0, 2, 3, None])
        self.assertEqual(order_after(drop(2)), [0, 1, 3, None])
        self.assertEqual(order_after(drop(3)), [0, 1, 2, None])

    def test_refused_changes_nothing(self):
        self.assertEqual(order_after(drop(4)), [0, 1, 2, 3])


class Move(unittest.TestCase):
    def test_answers_nought(self):
        for k in range(4):
            for to in range(4):
                with self.subTest(k=k, to=to):
                    self.assertEqual(last(*ALIKE, move(k, to)), [0])

    def test_forwards(self):
        self.assertEqual(order_after(move(3, 0)), [3, 0, 1, 2])
        self.assertEqual(order_after(move(2, 1)), [0, 2, 1, 3])
        self.assertEqual(order_after(move(3, 1)), [0, 3, 1, 2])

    def test_backwards(self):
        self.assertEqual(order_after(move(0, 3)), [1, 2, 3, 0])
        self.assertEqual(order_after(move(0, 1)), [1, 0, 2, 3])
        self.assertEqual(order_after(move(1, 2)), [0, 2, 1, 3])
        self.assertEqual(order_after(move(0, 2)), [1, 2, 0, 3])

    def test_onto_its_own_place(self):
        for k in range(4):
            with self.subTest(k=k):
                self.assertEqual(order_after(move(k, k)), [0, 1, 2, 3])

    def test_decide_shows_the_numbers(self):
        apart = [begin(3)] + [rule(10 + k, (k, k)) for k in range(4)]
        rows = asked(*apart, move(0, 2), decide(0), decide(1), decide(2), decide(3))
        self.assertEqual(rows[5:], [[0], [1, 10, 2], [1, 11, 0], [1, 12, 1], [1, 13, 3]])

    def test_where_rules_clash(self):
        rows = asked(begin(9), rule(1, (0, 5)), rule(2, (5, 9)), decide(5), move(1, 0), decide(5), decide(4))
        self.assertEqual(rows[3:], [[1, 1, 0], [0], [1, 2, 0], [1, 1, 1]])

    def test_no_such_rule(self):
        for k in [4, 5, TOP]:
            with self.subTest(k=k):
                self.assertEqual(last(*ALIKE, move(k, 0)), [-2])

    def test_no_such_rule_and_a_wrong_place(self):
        for k in [4, TOP]:
            for to in [4, TOP]:
                with self.subTest(k=k, to=to):
                    self.assertEqual(last(*ALIKE, move(k, to)), [-2])

    def test_no_rules_at_all(self):
        self.assertEqual(last(begin(9), move(0, 0)), [-2])

    def test_a_wrong_place(self):
        for to in [4, 5, 10, TOP]:
            with self.subTest(to=to):
                self.assertEqual(last(*ALIKE, move(1, to)), [-22])

    def test_refused_changes_nothing(self):
        for wrong in [move(4, 0), move(4, 4), move(0, 4), move(3, TOP)]:
            with self.subTest(wrong=wrong):
                self.assertEqual(order_after(wrong), [0, 1, 2, 3])


if __name__ == "__main__":
    unittest.main()
