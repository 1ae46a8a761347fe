import unittest

from calls import TOP, begin, decide, drop, first_difference, joined, move, rule
from whydecided.reasons import answers


def refuse(*ignored):
    raise AssertionError("what is handed in was changed")


class Untouchable(list):
    append = extend = insert = pop = remove = clear = sort = reverse = refuse
    __setitem__ = __delitem__ = __iadd__ = __imul__ = refuse


class TheList(unittest.TestCase):
    def test_as_it_stands_number_by_number(self):
        calls = [0, 2, 9, 4, 1, 7, 4, 2, 9, 0, 3, 1, 8, 4, 0, 9, 0, 4, 4, 2, 2, 3, 4, 2, 1, 4, 3, 0, 1, 4, 2, 2, 3]
        calls += [2, 1, 4, 2, 2, 3, 4, 1, 2, 2, 5]
        told = [1, 0, 1, 0, 1, 1, 3, 1, 7, 0, 3, 1, 8, 1, 1, 0, 3, 1, 8, 0, 1, 1, 3, 1, 8, 0, 1, -22, 1, -2]
        self.assertEqual(answers(calls), told)

    def test_one_call_alone(self):
        self.assertEqual(answers([0, 1, 5]), [1, 0])
        self.assertEqual(answers([0, 0]), [1, -22])

    def test_a_refusal_is_its_number_alone(self):
        calls = joined([begin(9), rule(256, (0, 9)), drop(0), move(0, 0), decide(10)])
        self.assertEqual(answers(calls), [1, 0, 1, -22, 1, -2, 1, -2, 1, -22])

    def test_a_refused_row_is_still_read_whole(self):
        calls = [0, 10] + [4] * 10 + [0, 1, 9, 1, 5, 20] + [1] * 20 + [4, 10] + [2] * 10 + [4, 1, 9]
        self.assertEqual(answers(calls), [1, -22, 1, 0, 1, -22, 1, -22, 1, 0])

    def test_three_hundred_calls(self):
        calls = joined([begin(400)] + [rule(k, (k, 400 - k)) for k in range(10)] + [decide(k) for k in range(289)])
        told = [1, 0] + joined([[1, k] for k in range(10)]) + [3, 1, 0, 0] * 289
        self.assertIsNone(first_difference(answers(calls), told))

    def test_three_hundred_longest_calls(self):
        wide = [begin(TOP, TOP, TOP, TOP)]
        calls = joined(wide + [rule(255, *[(0, TOP)] * 10)] * 299)
        self.assertIsNone(first_difference(answers(calls), [1, 0] + [1, -22] * 299))

    def test_three_hundred_drops_and_rules(self):
        calls = joined([begin(9), rule(1, (0, 9))] + [rule(2, (0, 9)), drop(0)] * 149)
        self.assertIsNone(first_difference(answers(calls), [1, 0, 1, 0] + [1, 1, 1, 1] * 149))

    def test_what_is_handed_in_stays(self):
        calls = joined([begin(9, 9), rule(1, (0, 9), (2, 3)), rule(2, (0, 9), (0, 9)), move(1, 0), drop(0)])
        calls += joined([decide(1, 2), decide(1), begin(), begin(3), rule(1, (3, 2)), decide(3)])
        before = list(calls)
        answers(calls)
        self.assertEqual(calls, before)

    def test_what_is_handed_in_stays_for_the_while_too(self):
        calls = joined([begin(9, 9), rule(1, (0, 9), (2, 3)), begin(9), rule(2, (0, 9))])
        calls += joined([move(0, 0), decide(3), drop(0)])
        self.assertEqual(answers(Untouchable(calls)), [1, 0, 1, 0, 1, 0, 1, 0, 1, 0, 3, 1, 2, 0, 1, 0])

    def test_the_same_list_twice(self):
        calls = joined([begin(9), rule(1, (0, 4)), rule(2, (4, 9)), move(1, 0), decide(4), drop(0), decide(4)])
        first = answers(calls)
        self.assertEqual(first, [1, 0, 1, 0, 1, 1, 1, 0, 3, 1, 2, 0, 1, 1, 3, 1, 1, 0])
        self.assertEqual(answers(calls), first)

    def test_nothing_is_kept_between_lists(self):
        answers(joined([begin(9)] + [rule(1, (0, 9))] * 10))
        self.assertEqual(answers(joined([begin(9), decide(1), drop(0), rule(3, (0, 9))])), [1, 0, 1, 0, 1, -2, 1, 0])

    def test_what_was_given_back_may_be_changed(self):
        calls = joined([begin(9), rule(1, (0, 9)), decide(4)])
        given = answers(calls)
        given.clear()
        self.assertEqual(answers(calls), [1, 0, 1, 0, 3, 1, 1, 0])

    def test_gives_back_a_list_of_whole_numbers(self):
        told = answers(joined([begin(9), rule(1, (0, 9)), decide(4), move(0, 0), drop(0), decide(4)]))
        self.assertIs(type(told), list)
        self.assertEqual({type(number) for number in told}, {int})


if __name__ == "__main__":
    unittest.main()
