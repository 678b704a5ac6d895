"""Tests of somerows.plans: points [2] and [6]."""

import copy
import itertools
import unittest

from samples import BARE, SAFE, STRANGE_VALUES, every_plan, with_part
from somerows.plans import all_plans, is_plan


class IsPlan(unittest.TestCase):
    def assert_no_plan(self, value):
        self.assertIs(is_plan(value), False, value)

    def test_the_examples_of_the_document(self):
        self.assertEqual(
            [is_plan(SAFE), is_plan((3,) + SAFE[1:]), is_plan(SAFE[:7] + ('later',)),
             is_plan(SAFE[:4] + (1,) + SAFE[5:])],
            [True, False, False, False])

    def test_every_plan_is_one(self):
        plans = every_plan()
        self.assertEqual(len(set(plans)), 2 * 2 * 3 * 72)
        for plan in plans:
            self.assertIs(is_plan(plan), True, plan)

    def test_the_numbers_just_beyond_their_bounds(self):
        for plan in (SAFE, BARE):
            for at in (0, 1):
                for number in (0, 3, -1, -2, 10 ** 59, -10 ** 59):
                    self.assert_no_plan(with_part(plan, at, number))

    def test_a_bool_is_no_integer(self):
        for at in (0, 1):
            for flag in (True, False):
                self.assert_no_plan(with_part(SAFE, at, flag))

    def test_an_integer_is_no_bool(self):
        for at in (4, 5, 6):
            for number in (0, 1, -1, 2):
                self.assert_no_plan(with_part(SAFE, at, number))
                self.assert_no_plan(with_part(BARE, at, number))

    def test_other_words(self):
        sendings, anews = ('all', 'either', 'now'), ('never', 'cut', 'kept')
        for at in (2, 3):
            for word in anews + ('', 'All', 'none', 'al', 'all ', 'eithe', 'nowadays', b'all'):
                self.assert_no_plan(with_part(SAFE, at, word))
        for word in sendings + ('', 'Never', 'later', 'cu', 'keptt', ' never', b'cut'):
            self.assert_no_plan(with_part(SAFE, 7, word))

    def test_words_in_other_places(self):
        for at in (0, 1, 4, 5, 6):
            for word in ('all', 'now', 'never', '1', 'True'):
                self.assert_no_plan(with_part(SAFE, at, word))
        for at in (2, 3, 7):
            for other in (0, 1, True, False, None, ('all',), ['never'], {'all': 'now'}, ()):
                self.assert_no_plan(with_part(SAFE, at, other))

    def test_plans_of_other_lengths(self):
        for plan in (SAFE, BARE):
            for length in range(8):
                self.assert_no_plan(plan[:length])
                self.assert_no_plan(plan[length + 1:])
            for more in ('never', True, (), 1, None):
                self.assert_no_plan(plan + (more,))
                self.assert_no_plan((more,) + plan)
            self.assert_no_plan((plan,))
            self.assert_no_plan(plan + plan)

    def test_a_list_is_no_tuple(self):
        for plan in (SAFE, BARE):
            self.assert_no_plan(list(plan))
            self.assert_no_plan([plan])

    def test_parts_in_another_order(self):
        self.assert_no_plan(SAFE[::-1])
        self.assert_no_plan(SAFE[2:4] + SAFE[:2] + SAFE[4:])
        self.assert_no_plan(SAFE[:3] + (True, 'all') + SAFE[5:])

    def test_other_values(self):
        others = [True, False, 0, 1, 8, 'lanes', {SAFE: SAFE}, dict(enumerate(SAFE)), (None,) * 8,
                  (1,) * 8, (True,) * 8, ('all',) * 8, ((),) * 8, 'allallal']
        for value in STRANGE_VALUES + others:
            self.assert_no_plan(value)

    def test_parts_of_any_other_kind(self):
        for plan in (SAFE, BARE):
            for at in range(8):
                for strange in STRANGE_VALUES:
                    self.assert_no_plan(with_part(plan, at, strange))

    def test_the_value_is_not_changed(self):
        values = STRANGE_VALUES + [list(SAFE), with_part(SAFE, 2, ['all']), with_part(SAFE, 7, {})]
        for value in values:
            before = copy.deepcopy(value)
            is_plan(value)
            self.assertEqual(value, before)


class AllPlans(unittest.TestCase):
    def test_the_examples_of_the_document(self):
        self.assertEqual(
            [len(all_plans(1, 1, 'never')), all_plans(2, 1, 'cut')[0],
             SAFE in all_plans(1, 1, 'never')],
            [72, (2, 1, 'all', 'all', False, False, False, 'cut'), True])

    def test_seventy_two_plans_for_each_lanes_late_and_anew(self):
        for lanes, late, anew in itertools.product((1, 2), (1, 2), ('never', 'cut', 'kept')):
            plans = all_plans(lanes, late, anew)
            self.assertIs(type(plans), list)
            self.assertEqual(len(plans), 72)
            self.assertEqual(plans, sorted(set(plans)))
            for plan in plans:
                self.assertIs(is_plan(plan), True)
                self.assertEqual((plan[0], plan[1], plan[7]), (lanes, late, anew))

    def test_the_ends(self):
        plans = all_plans(1, 2, 'kept')
        self.assertEqual(plans[:2], [(1, 2, 'all', 'all', False, False, False, 'kept'),
                                     (1, 2, 'all', 'all', False, False, True, 'kept')])
        self.assertEqual(plans[-1], (1, 2, 'now', 'now', True, True, True, 'kept'))

    def test_a_new_list_each_time(self):
        first = all_plans(2, 2, 'cut')
        second = all_plans(2, 2, 'cut')
        self.assertIsNot(first, second)
        first.clear()
        self.assertEqual(len(second), 72)
        self.assertEqual(all_plans(2, 2, 'cut'), second)


if __name__ == '__main__':
    unittest.main()
