"""Tests of somerows.tables: points [2], [3] and [11]."""

import copy
import itertools
import unittest

import model
from samples import BARE, JOINT, PAIR, SAFE, SEARCHED, SMALL, STRANGE_VALUES, WORDS
from samples import every_words, listed, other_kinds, plan_with, searched, with_part
from somerows.faults import faults
from somerows.standings import after, beginning, is_standing, steps
from somerows.tables import find_history, find_table, is_history, is_table
from timing import soon
from walks import walk

ABSENT = ((-1,), ())
UP, DOWN = ('commit', (('parent', 0, 1),)), ('commit', (('parent', 0, 0),))
IN, OUT = ('commit', (('child', (0, 0)),)), ('commit', (('child', ()),))
FIRST, SECOND, ANEW = ('deliver', 0), ('deliver', 1), ('anew',)
DANGLING = (UP, FIRST, IN, SECOND, DOWN, FIRST)

# The greatest of all tables, and one of the longest searches.
LARGEST = ((1, 2, 2, ((0, 0), (1, 1)), True),
           (2, 2, 'either', 'either', True, True, False, 'kept'))


def in_place(table, standing):
    """Return the table with one more standing, where it belongs."""
    return tuple(sorted(table + (standing,)))


class Finding(unittest.TestCase):
    def test_the_examples_of_the_document(self):
        self.assertEqual(
            [find_history(SMALL, SAFE, ('blinks', 'dangles', 'lacks', 'left')),
             find_history(SMALL, BARE, ()), find_table(SMALL, BARE, ('lacks',))],
            [None, None, None])
        self.assertEqual(
            [len(find_history(SMALL, BARE, ('lacks',))),
             is_history(SMALL, BARE, ('lacks',), find_history(SMALL, BARE, ('lacks',))),
             is_history(SMALL, BARE, (), ())],
            [4, True, False])
        self.assertIs(
            is_history(SMALL, BARE, ('dangles',),
                       (('commit', (('parent', 0, 1),)), ('deliver', 0),
                        ('commit', (('child', (0, 0)),)), ('deliver', 1),
                        ('commit', (('parent', 0, 0),)), ('deliver', 0))),
            True)

    def test_exactly_one_of_both_exists(self):
        for case, plan in searched():
            distances = model.distances(case, plan)
            for words in every_words()[::3] + [WORDS]:
                table, history = find_table(case, plan, words), find_history(case, plan, words)
                self.assertEqual([table, history].count(None), 1)
                fewest = model.fewest(case, words, distances)
                if fewest is None:
                    self.assertIs(type(table), tuple)
                    self.assertEqual(table, tuple(sorted(distances)))
                    self.assertIs(is_table(case, plan, words, table), True)
                else:
                    self.assertIs(type(history), tuple)
                    self.assertEqual(len(history), fewest)
                    self.assertIs(model.holds_as_history(case, plan, words, history), True)
                    self.assertIs(is_history(case, plan, words, history), True)

    def test_a_table_step_by_step(self):
        for case, plan in searched():
            for words in [()] + [(word,) for word in WORDS]:
                table = find_table(case, plan, words)
                if table is None or len(table) > 300:
                    continue
                known = dict.fromkeys(table)
                self.assertIn(beginning(case, plan), known)
                for standing in table:
                    self.assertIs(is_standing(case, plan, standing), True)
                    self.assertFalse(set(faults(case, standing)) & set(words))
                    for step in steps(case, plan, standing):
                        self.assertIn(after(case, plan, standing, step), known)

    def test_a_history_step_by_step(self):
        for case, plan in searched():
            for words in every_words():
                history = find_history(case, plan, words)
                if history is None:
                    continue
                standing = beginning(case, plan)
                for step in history:
                    self.assertFalse(set(faults(case, standing)) & set(words))
                    self.assertIn(step, steps(case, plan, standing))
                    standing = after(case, plan, standing, step)
                self.assertTrue(set(faults(case, standing)) & set(words))

    def test_no_words_have_a_table_of_all_that_steps_lead_to(self):
        for case in SEARCHED:
            for plan in (SAFE, BARE):
                self.assertIsNone(find_history(case, plan, ()))
                table = find_table(case, plan, ())
                for seed in range(5):
                    for standing in walk(case, plan, 20, seed)[0]:
                        self.assertIn(standing, table)

    def test_a_word_more_can_only_take_the_table_away(self):
        for case, plan in searched()[::4]:
            alone = {word for word in WORDS if find_table(case, plan, (word,)) is not None}
            for words in every_words():
                self.assertEqual(find_table(case, plan, words) is not None, set(words) <= alone)

    def test_equal_arguments_give_equal_results_and_do_not_change(self):
        for case, plan in searched()[::3]:
            for words in ((), ('lacks',), WORDS):
                arguments = [case, plan, words]
                kept = copy.deepcopy(arguments)
                found = find_table(*arguments), find_history(*arguments)
                self.assertEqual(arguments, kept)
                self.assertEqual((find_table(*kept), find_history(*kept)), found)

    def test_tuples_throughout(self):
        history = find_history(PAIR, plan_with(BARE, anew='kept'), WORDS)
        table = find_table(PAIR, SAFE, ())
        for value in (history, table):
            self.assertEqual(listed(value), [listed(part) for part in value])
            pending = [value]
            for part in pending:
                self.assertIn(type(part), (tuple, int, str))
                pending.extend(part if isinstance(part, tuple) else ())


class IsTable(unittest.TestCase):
    def setUp(self):
        self.told = [(case, plan, words, find_table(case, plan, words))
                     for case, plan, words in (
                         (SMALL, SAFE, WORDS), (SMALL, BARE, ('blinks',)), (JOINT, SAFE, ()),
                         (PAIR, SAFE, ('dangles', 'lacks')), ((1, 1, 1, (), True), BARE, WORDS))]

    def assert_no_table(self, told, value):
        self.assertIs(is_table(*told[:3], value), False, (told[:3], value))

    def test_what_was_told(self):
        for told in self.told:
            self.assertIsNotNone(told[3])
            self.assertIs(is_table(*told), True)

    def test_a_standing_left_out(self):
        for told in self.told:
            table = told[3]
            for at in range(0, len(table), 1 + len(table) // 40):
                self.assert_no_table(told, table[:at] + table[at + 1:])
            start = table.index(beginning(*told[:2]))
            self.assert_no_table(told, table[:start] + table[start + 1:])

    def test_a_standing_twice(self):
        for told in self.told:
            table = told[3]
            for at in range(0, len(table), 1 + len(table) // 20):
                self.assert_no_table(told, table[:at + 1] + table[at:])
            self.assert_no_table(told, table + table)

    def test_standings_exchanged(self):
        for told in self.told:
            table = told[3]
            for at in range(0, len(table) - 1, 1 + len(table) // 20):
                turned = table[:at] + (table[at + 1], table[at]) + table[at + 2:]
                self.assert_no_table(told, turned)
            self.assert_no_table(told, table[::-1])
            self.assert_no_table(told, table[1:] + table[:1])

    def test_more_than_the_least_table(self):
        # No steps lead to these marks, but all steps lead back into the table.
        for told in self.told:
            case, plan, words, table = told
            start = beginning(case, plan)
            for mark in (1, 2):
                more = in_place(table, with_part(start, 3, mark))
                blinks = mark == 2 and 'blinks' in words
                self.assertIs(is_table(case, plan, words, more), not blinks)
                self.assert_no_table(told, (more[-1],) + more[:-1])

    def test_a_standing_put_in_whose_steps_lead_out_of_the_table(self):
        # The copy holds what no steps bring into it at this place.
        standing = (ABSENT, ((1,), (0, 0)), ((),), 0)
        for words in ((), ('blinks',)):
            table = find_table(SMALL, SAFE, words)
            self.assertNotIn(standing, table)
            self.assertIs(is_table(SMALL, SAFE, words, in_place(table, standing)), False)

    def test_any_standing_put_in_by_the_definition(self):
        case, plan = SMALL, SAFE
        table = find_table(case, plan, ())
        found = []
        for source, held, mark in itertools.product((ABSENT, ((0,), (0, 0)), ((1,), (0, 0))),
                                                    (ABSENT, ((-1,), (0, 0)), ((1,), (0, 0))),
                                                    (0, 1, 2)):
            for lane in ((), ((('child', (), -1),),), ((('parent', 0, 1, (0,)),),)):
                standing = (source, held, (lane,), mark)
                if standing in table:
                    continue
                more = in_place(table, standing)
                for words in ((), ('blinks',), WORDS):
                    found.append(is_table(case, plan, words, more))
                    self.assertIs(found[-1], model.holds_as_table(case, plan, words, more))
        self.assertEqual(set(found), {False, True})

    def test_standings_with_faults(self):
        for case, plan in searched()[::3]:
            table = find_table(case, plan, ())
            present = {word for standing in table for word in faults(case, standing)}
            for words in every_words():
                self.assertIs(is_table(case, plan, words, table), not present & set(words))

    def test_other_cases_and_plans(self):
        for case, plan, words, table in self.told:
            turned = plan_with(plan, lanes=3 - plan[0])
            self.assertIs(is_table(case, turned, words, table), False)
            self.assertIs(is_table((3, 1, 1, (), False), plan, words, table), False)
            for other in (plan_with(plan, anew='kept'), plan_with(plan, anew='cut')):
                self.assertIs(is_table(case, other, words, table),
                              model.holds_as_table(case, other, words, table))

    def test_parts_of_other_kinds(self):
        table = self.told[0][3]
        for at in (0, len(table) // 2, len(table) - 1):
            for other in other_kinds(table[at]):
                self.assert_no_table(self.told[0], with_part(table, at, other))
        for told in self.told:
            self.assert_no_table(told, list(told[3]))
            self.assert_no_table(told, dict.fromkeys(told[3]))
            self.assert_no_table(told, dict.fromkeys(told[3], 0))
            self.assert_no_table(told, (told[3],))
            self.assert_no_table(told, listed(told[3]))

    def test_other_values(self):
        for told in self.told:
            for value in STRANGE_VALUES + [(), True, 0, beginning(*told[:2])]:
                self.assert_no_table(told, value)
        table = self.told[0][3]
        for strange in STRANGE_VALUES:
            for at in (0, len(table) // 3):
                self.assert_no_table(self.told[0], with_part(table, at, strange))
            self.assert_no_table(self.told[0], table + (strange,))
            self.assert_no_table(self.told[0], (strange,) + table)

    def test_the_beginning_alone(self):
        for case, plan in ((SMALL, SAFE), (PAIR, BARE)):
            self.assertIs(is_table(case, plan, (), (beginning(case, plan),)), False)

    def test_no_argument_changes(self):
        case, plan, words, table = self.told[0]
        for value in [table, list(table), listed(table), with_part(table, 1, [])]:
            arguments = [case, plan, words, value]
            kept = copy.deepcopy(arguments)
            is_table(*arguments)
            is_history(*arguments)
            self.assertEqual(arguments, kept)


class IsHistory(unittest.TestCase):
    def setUp(self):
        self.told = [(case, plan, words, find_history(case, plan, words))
                     for case, plan, words in (
                         (SMALL, BARE, ('lacks',)), (SMALL, BARE, ('dangles',)),
                         (PAIR, plan_with(BARE, anew='kept'), ('left',)),
                         (JOINT, plan_with(BARE, late=2, anew='cut'), ('blinks', 'dangles')),
                         (SMALL, plan_with(SAFE, children='now', looks_again=False), WORDS))]

    def assert_no_history(self, told, value):
        self.assertIs(is_history(*told[:3], value), False, (told[:3], value))

    def test_what_was_told(self):
        for told in self.told:
            self.assertIsNotNone(told[3])
            self.assertIs(is_history(*told), True)

    def test_steps_left_out_put_in_or_twice(self):
        more = [UP, DOWN, IN, OUT, FIRST, SECOND, ANEW]
        for told in self.told:
            history = told[3]
            for at in range(len(history) + 1):
                others = [history[:at], history[at + 1:], history[:at] + history[at + 1:],
                          history[:at + 1] + history[at:], history + history[at:]]
                others += [history[:at] + (step,) + history[at:] for step in more]
                others += [history[:at] + (step,) + history[at + 1:] for step in more]
                for other in others:
                    self.assertIs(is_history(*told[:3], other),
                                  model.holds_as_history(*told[:3], other))

    def test_not_the_end_but_before_it(self):
        for told in self.told:
            for end in range(len(told[3])):
                self.assert_no_history(told, told[3][:end])

    def test_not_beyond_the_first_fault(self):
        for case, plan, words, history in self.told:
            standing = beginning(case, plan)
            for step in history:
                standing = after(case, plan, standing, step)
            for step in steps(case, plan, standing):
                self.assert_no_history((case, plan, words), history + (step,))

    def test_all_short_tuples_of_steps(self):
        for words in (('lacks',), ('left',), ('dangles',), WORDS):
            for plan in (BARE, plan_with(BARE, anew='kept')):
                for length in range(5):
                    for value in itertools.product((UP, IN, FIRST, SECOND, ANEW), repeat=length):
                        self.assertIs(is_history(SMALL, plan, words, value),
                                      model.holds_as_history(SMALL, plan, words, value))

    def test_a_longer_one_is_a_history_too(self):
        self.assertIs(is_history(SMALL, BARE, ('dangles',), DANGLING), True)
        again = (UP, FIRST, DOWN, FIRST) * 50 + DANGLING
        self.assertIs(is_history(SMALL, BARE, ('dangles',), again), True)
        # Along it no row has lacked, nor blinked, but the child is left.
        self.assertIs(is_history(SMALL, BARE, ('blinks', 'lacks'), again), False)
        self.assertIs(is_history(SMALL, BARE, ('left',), again), True)

    def test_other_words(self):
        for case, plan, _, history in self.told:
            for words in every_words():
                self.assertIs(is_history(case, plan, words, history),
                              model.holds_as_history(case, plan, words, history))
            self.assert_no_history((case, plan, ()), history)

    def test_parts_of_other_kinds(self):
        for told in self.told:
            for other in other_kinds(told[3]):
                self.assert_no_history(told, other)
            self.assert_no_history(told, (told[3],))
            self.assert_no_history(told, dict.fromkeys(told[3]))
            self.assert_no_history(told, listed(told[3]))
        words, path = ('dangles',), DANGLING
        for step in (('deliver', False), ['deliver', 0], ('deliver', -2), ('deliver', 2),
                     ('deliver',), ('deliver', 0, 0), ('deliver', '0'), ('deliver', (0,)),
                     ('Deliver', 0), 'deliver', 0, None, (), ('anew',), ('commit', 0),
                     ('commit', ()), ('commit', None), ('commit', ('deliver', 0))):
            self.assert_no_history((SMALL, BARE, words), with_part(path, 1, step))
        for step in (('commit', (('parent', 0, True),)), ('commit', (('parent', False, 1),)),
                     ('commit', [('parent', 0, 1)]), ('commit', (['parent', 0, 1],)),
                     ('commit', ('parent', 0, 1)), ('commit', (('parent', 0, 1),), 0),
                     ('commit', (('parent', 0, 2),)), ('commit', (('parent', 0, -1),)),
                     ('commit', (('child', (0, 0)),)), ('commit', (('parent', 0, 1),) * 2)):
            self.assert_no_history((SMALL, BARE, words), with_part(path, 0, step))

    def test_other_values(self):
        for told in self.told:
            for value in STRANGE_VALUES + [(), True, 0, beginning(*told[:2]), told[3][-1]]:
                self.assert_no_history(told, value)
            for strange in STRANGE_VALUES:
                for at in range(len(told[3])):
                    self.assert_no_history(told, with_part(told[3], at, strange))
                    self.assert_no_history(told, told[3][:at] + (strange,) + told[3][at:])
                self.assert_no_history(told, told[3] + (strange,))

    def test_long_values(self):
        plan = plan_with(SAFE, anew='kept')
        self.assertIs(is_history(SMALL, plan, ('lacks',), (ANEW,) * 9_000), False)
        self.assertIs(is_history(SMALL, plan, ('lacks',), (UP, FIRST, DOWN, FIRST) * 2_000), False)


class Time(unittest.TestCase):
    def test_the_largest_table(self):
        case, plan = LARGEST
        table = soon(self, find_table, case, plan, ())
        self.assertEqual(len(table), 6474)
        self.assertIsNone(soon(self, find_history, case, plan, ()))
        self.assertIs(soon(self, is_table, case, plan, (), table), True)
        self.assertIs(soon(self, is_table, case, plan, (), table[:-1]), False)
        self.assertIs(soon(self, is_table, case, plan, (), table[1:]), False)
        self.assertIs(soon(self, is_history, case, plan, (), table), False)


if __name__ == '__main__':
    unittest.main()
