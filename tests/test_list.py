import random
import time
import unittest

from calls import TOP, asked, begin, contrasts, decide, drop, first_difference, forces, joined, move, reasons, rule, way
from everycase import EveryCase, painted, random_rule
from whydecided.reasons import answers


def refuse(*ignored):
    raise AssertionError("what is handed in was changed")


class Untouchable(list):
    append = extend = insert = pop = remove = clear = sort = reverse = refuse
    __setitem__ = __delitem__ = __iadd__ = __imul__ = refuse


class TheList(unittest.TestCase):
    def test_as_it_stands_number_by_number(self):
        calls = [0, 2, 9, 4, 1, 7, 4, 2, 9, 0, 3, 1, 8, 4, 0, 9, 0, 4, 4, 2, 2, 3, 4, 2, 1, 4, 3, 0, 1, 4, 2, 2, 3]
        calls += [2, 1, 4, 2, 2, 3, 4, 1, 2, 2, 5]
        told = [1, 0, 1, 0, 1, 1, 3, 1, 7, 0, 3, 1, 8, 1, 1, 0, 3, 1, 8, 0, 1, 1, 3, 1, 8, 0, 1, -22, 1, -2]
        self.assertEqual(answers(calls), told)

    def test_one_call_alone(self):
        self.assertEqual(answers([0, 1, 5]), [1, 0])
        self.assertEqual(answers([0, 0]), [1, -22])

    def test_a_refusal_is_its_number_alone(self):
        calls = joined([begin(9), rule(256, (0, 9)), drop(0), move(0, 0), decide(10)])
        self.assertEqual(answers(calls), [1, 0, 1, -22, 1, -2, 1, -2, 1, -22])

    def test_a_refused_row_is_still_read_whole(self):
        calls = [0, 10] + [4] * 10 + [0, 1, 9, 1, 5, 20] + [1] * 20 + [4, 10] + [2] * 10 + [4, 1, 9]
        self.assertEqual(answers(calls), [1, -22, 1, 0, 1, -22, 1, -22, 1, 0])

    def test_three_hundred_calls(self):
        calls = joined([begin(400)] + [rule(k, (k, 400 - k)) for k in range(10)] + [decide(k) for k in range(289)])
        told = [1, 0] + joined([[1, k] for k in range(10)]) + [3, 1, 0, 0] * 289
        self.assertIsNone(first_difference(answers(calls), told))

    def test_three_hundred_longest_calls(self):
        wide = [begin(TOP, TOP, TOP, TOP)]
        calls = joined(wide + [rule(255, *[(0, TOP)] * 10)] * 299)
        self.assertIsNone(first_difference(answers(calls), [1, 0] + [1, -22] * 299))

    def test_three_hundred_drops_and_rules(self):
        calls = joined([begin(9), rule(1, (0, 9))] + [rule(2, (0, 9)), drop(0)] * 149)
        self.assertIsNone(first_difference(answers(calls), [1, 0, 1, 0] + [1, 1, 1, 1] * 149))

    def test_what_is_handed_in_stays(self):
        calls = joined([begin(9, 9), rule(1, (0, 9), (2, 3)), rule(2, (0, 9), (0, 9)), move(1, 0), drop(0)])
        calls += joined([decide(1, 2), decide(1), begin(), begin(3), rule(1, (3, 2)), decide(3)])
        before = list(calls)
        answers(calls)
        self.assertEqual(calls, before)

    def test_what_is_handed_in_stays_for_the_while_too(self):
        calls = joined([begin(9, 9), rule(1, (0, 9), (2, 3)), begin(9), rule(2, (0, 9))])
        calls += joined([move(0, 0), decide(3), drop(0)])
        self.assertEqual(answers(Untouchable(calls)), [1, 0, 1, 0, 1, 0, 1, 0, 1, 0, 3, 1, 2, 0, 1, 0])

    def test_the_same_list_twice(self):
        calls = joined([begin(9), rule(1, (0, 4)), rule(2, (4, 9)), move(1, 0), decide(4), drop(0), decide(4)])
        first = answers(calls)
        self.assertEqual(first, [1, 0, 1, 0, 1, 1, 1, 0, 3, 1, 2, 0, 1, 1, 3, 1, 1, 0])
        self.assertEqual(answers(calls), first)

    def test_nothing_is_kept_between_lists(self):
        answers(joined([begin(9)] + [rule(1, (0, 9))] * 10))
        self.assertEqual(answers(joined([begin(9), decide(1), drop(0), rule(3, (0, 9))])), [1, 0, 1, 0, 1, -2, 1, 0])

    def test_what_was_given_back_may_be_changed(self):
        calls = joined([begin(9), rule(1, (0, 9)), decide(4)])
        given = answers(calls)
        given.clear()
        self.assertEqual(answers(calls), [1, 0, 1, 0, 3, 1, 1, 0])

    def test_gives_back_a_list_of_whole_numbers(self):
        told = answers(joined([begin(9), rule(1, (0, 9)), decide(4), move(0, 0), drop(0), decide(4)]))
        self.assertIs(type(told), list)
        self.assertEqual({type(number) for number in told}, {int})


def random_question(source, tops):
    case = [source.randint(0, top) for top in tops]
    if source.random() < 0.1:
        case[source.randrange(len(case))] += 1000
    if source.random() < 0.1:
        case = case + case[:source.randint(1, 2)]
    kind = source.randrange(5)
    if kind == 0:
        return decide(*case)
    if kind == 1:
        return forces(source.randint(0, 17), *case)
    if kind == 2:
        return way(source.choice([0, 1, 2, 3, 256, 257]), *case)
    return reasons(*case) if kind == 3 else contrasts(*case)


class AllNineKinds(unittest.TestCase):
    def test_as_it_stands_number_by_number(self):
        calls = [0, 2, 9, 4]                    # begin
        calls += [1, 7, 4, 2, 9, 0, 3]          # rule
        calls += [1, 8, 4, 0, 9, 0, 4]          # rule
        calls += [5, 1, 2, 5, 2]                # forces: by input 0, it isn't forced
        calls += [5, 2, 2, 0, 2]                # forces: nor by input 1
        calls += [6, 2, 5, 2]                   # reasons
        calls += [7, 2, 5, 2]                   # contrasts
        calls += [8, 9, 2, 5, 2]                # way: to outcome 8
        calls += [8, 0, 2, 5, 2]                # way: to nothing, which is nowhere
        calls += [3, 0, 1]                      # move
        calls += [5, 0, 2, 5, 2]                # forces: now by nothing at all
        calls += [4, 2, 5, 2]                   # decide
        calls += [2, 0]                         # drop
        calls += [6, 2, 5, 4]                   # reasons, where nothing is decided
        calls += [7, 3, 5, 4, 0]                # contrasts of no case
        told = [1, 0, 1, 0, 1, 1, 3, 0, 5, 4, 3, 0, 2, 2, 2, 1, 3, 3, 2, 1, 2, 4, 1, 1, 0, 2, 1, -33, 1, 0, 1, 1]
        told += [3, 1, 8, 0, 1, 1, 2, 1, 2, 1, -22]
        self.assertEqual(answers(calls), told)

    def test_a_refused_row_is_still_read_whole(self):
        calls = [0, 1, 9, 5, 6, 10] + [8] * 10 + [6, 10] + [7] * 10 + [7, 0] + [8, 5, 10] + [6] * 10
        calls += [8, 257, 1, 3, 5, 2, 1, 3, 4, 1, 9]
        self.assertEqual(answers(calls), [1, 0] + [1, -22] * 6 + [1, 0])

    def test_a_refusal_is_its_number_alone(self):
        calls = joined([begin(9), forces(2, 3), reasons(10), contrasts(10), way(257, 3), way(1, 3)])
        self.assertEqual(answers(calls), [1, 0] + [1, -22] * 4 + [1, -33])

    def test_questions_change_nothing(self):
        source = random.Random(801)
        tops = [4, 3, 2, 5]
        rules = [random_rule(source, tops) for k in range(10)]
        changes = [begin(*tops)] + [rule(outcome, *bounds) for outcome, bounds in rules]
        changes += [move(2, 7), drop(3), move(8, 0), drop(20), rule(9, *[(0, 0)] * 4), begin(), begin(2), drop(0)]
        with_questions = []
        for change in changes:
            with_questions.append((True, change))
            with_questions += [(False, random_question(source, tops)) for k in range(6)]
        rows = asked(*[call for kept, call in with_questions])
        kept_rows = [row for row, (kept, call) in zip(rows, with_questions) if kept]
        self.assertEqual(kept_rows, asked(*changes))

    def wanted(self, table, picture, call):
        kind, numbers = call[0], call[1:]
        ahead = numbers[0] if kind in (5, 8) else 0
        case = tuple(numbers[2:] if kind in (5, 8) else numbers[1:])
        if case not in picture or kind == 5 and ahead > table.whole or kind == 8 and ahead > 256:
            return [-22]
        if kind == 4:
            return picture[case]
        if kind == 5:
            return table.forces(ahead, case)
        if kind == 8:
            return table.way(ahead, case)
        return table.reasons(case) if kind == 6 else table.contrasts(case)

    def test_three_hundred_calls_on_ten_rules_over_four_inputs(self):
        source = random.Random(802)
        tops = [3, 2, 4, 3]
        rules = [random_rule(source, tops) for k in range(10)]
        table = EveryCase(tops, rules)
        picture = painted(tops, rules)
        questions = [random_question(source, tops) for k in range(289)]
        told = answers(joined(table.start + questions))
        wanted = [[0]] + [[k] for k in range(10)] + [self.wanted(table, picture, call) for call in questions]
        self.assertIsNone(first_difference(told, joined([[len(row), *row] for row in wanted])))

    def test_questions_between_changes(self):
        source = random.Random(803)
        tops = [2, 3, 2]
        calls = [begin(*tops)]
        wanted = [[0]]
        rules = []
        for step in range(40):
            if len(rules) == 10 or rules and source.random() < 0.3:
                k, to = source.randrange(len(rules)), source.randrange(len(rules))
                rules.insert(to, rules.pop(k))
                del rules[0]
                calls += [move(k, to), drop(0)]
                wanted += [[0], [len(rules)]]
            else:
                rules.append(random_rule(source, tops))
                calls.append(rule(rules[-1][0], *rules[-1][1]))
                wanted.append([len(rules) - 1])
            table = EveryCase(tops, rules)
            questions = [random_question(source, tops) for k in range(4)]
            calls += questions
            wanted += [self.wanted(table, painted(tops, rules), call) for call in questions]
        self.assertLessEqual(len(calls), 300)
        self.assertIsNone(first_difference(asked(*calls), wanted))

    def test_begin_again_with_fewer_inputs(self):
        calls = [begin(9, 9), rule(1, (0, 4), (0, 4)), forces(2, 1, 1), begin(9), forces(2, 1), reasons(1), way(2, 1)]
        self.assertEqual(asked(*calls)[2:], [[0, 5, 1], [0], [-22], [1, 0], [-33]])

    def test_what_is_handed_in_stays(self):
        source = random.Random(804)
        tops = [4, 4, 4, 4]
        calls = [begin(*tops)] + [rule(outcome, *bounds) for outcome, bounds in
                                  [random_rule(source, tops) for k in range(10)]]
        calls = joined(calls + [random_question(source, tops) for k in range(200)])
        before = list(calls)
        first = answers(Untouchable(calls))
        self.assertIsNone(first_difference(answers(calls), first))
        self.assertIsNone(first_difference(answers(calls), first))
        self.assertTrue(calls == before)
        self.assertEqual({type(number) for number in first}, {int})


class Many(unittest.TestCase):
    # Bounds that lie within one another at each input in another order leave very many different sets of rules over.
    def crossing_rules(self, source):
        lows = [source.sample(range(1, 2 ** 31), 10) for k in range(4)]
        highs = [source.sample(range(2 ** 31, TOP), 10) for k in range(4)]
        return [rule(5, *[(lows[k][j], highs[k][j]) for k in range(4)]) for j in range(8)] + [
            rule(6, *[(lows[k][0], highs[k][0]) for k in range(4)]), rule(7, *[(2 ** 31, 2 ** 31)] * 4)]

    def test_three_hundred_questions_over_great_tops_take_some_seconds_at_most(self):
        source = random.Random(901)
        start = [begin(TOP, TOP, TOP, TOP)] + self.crossing_rules(source)
        middle = [2 ** 31] * 4
        # Outcomes 6 and 7 are hidden behind rule 0, so that all there is has to be looked through for them.
        questions = [way(7, *middle), way(8, *middle), reasons(*middle), contrasts(*middle), forces(7, *middle)]
        calls = joined(start + (questions * 58)[:289])
        before = time.process_time()
        told = answers(calls)
        self.assertLess(time.process_time() - before, 30)
        wanted = [[-33], [-33], [1, 15], [4, 1, 2, 4, 8], [0, *middle[:3], 0]]
        ahead = [1, 0] + joined([[1, k] for k in range(10)])
        self.assertIsNone(first_difference(told, ahead + joined([[len(row), *row] for row in (wanted * 58)[:289]])))


if __name__ == "__main__":
    unittest.main()
