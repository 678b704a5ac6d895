"""Tests of somerows.cases: points [2] and [4]."""

import copy
import unittest

from samples import PAIR, SMALL, STRANGE_VALUES, all_cases, listed, with_part
from somerows.cases import is_case, pair_passes, value_passes

WIDE = (3, 3, 2, ((0, 0), (0, 2), (1, 1)), True)


def with_test(case, test):
    return with_part(case, 3, test)


class IsCase(unittest.TestCase):
    def assert_no_case(self, value):
        self.assertIs(is_case(value), False, value)

    def test_the_examples_of_the_document(self):
        self.assertEqual(
            [is_case(SMALL), is_case((0, 2, 1, (), False)), is_case((1, 2, 1, ((0, 2),), False)),
             is_case((1, 2, 1, ((0, 1),), 0))],
            [True, False, False, False])

    def test_every_case_is_one(self):
        for case in all_cases():
            self.assertIs(is_case(case), True, case)

    def test_the_numbers_just_beyond_their_bounds(self):
        empty = (1, 1, 1, (), False)
        for at, low, high in ((0, 1, 3), (1, 1, 3), (2, 1, 2)):
            self.assertIs(is_case(with_part(empty, at, low)), True)
            self.assertIs(is_case(with_part(empty, at, high)), True)
            for number in (low - 1, high + 1, -1, 10 ** 59, -10 ** 59):
                self.assert_no_case(with_part(empty, at, number))

    def test_a_bool_is_no_integer(self):
        for at in (0, 1, 2):
            self.assert_no_case(with_part((1, 1, 1, (), False), at, True))
        self.assert_no_case(with_test(SMALL, ((False, 1),)))
        self.assert_no_case(with_test(SMALL, ((0, True),)))
        self.assert_no_case((1, 2, 2, ((0, 1), (True, 1)), False))

    def test_an_integer_is_no_bool(self):
        for number in (0, 1, -1, 2):
            self.assert_no_case(with_part(SMALL, 4, number))
        for joint in (False, True):
            self.assertIs(is_case(with_part(SMALL, 4, joint)), True)

    def test_a_list_is_no_tuple(self):
        self.assert_no_case(list(SMALL))
        self.assert_no_case(with_test(SMALL, [(0, 1)]))
        self.assert_no_case(with_test(SMALL, ([0, 1],)))
        self.assert_no_case(with_test(WIDE, ((0, 0), [0, 2], (1, 1))))
        self.assert_no_case(with_test(SMALL, []))
        self.assert_no_case(listed(WIDE))

    def test_the_test_must_ascend(self):
        self.assert_no_case(with_test(WIDE, ((0, 2), (0, 0), (1, 1))))
        self.assert_no_case(with_test(WIDE, ((0, 0), (1, 1), (0, 2))))
        self.assert_no_case(with_test(WIDE, ((1, 0), (0, 1))))
        self.assertIs(is_case(with_test(WIDE, ((0, 1), (1, 0)))), True)

    def test_no_pair_stands_twice(self):
        self.assert_no_case(with_test(SMALL, ((0, 1), (0, 1))))
        self.assert_no_case(with_test(WIDE, ((0, 0), (0, 2), (0, 2), (1, 1))))
        self.assert_no_case(with_test(WIDE, ((0, 0), (1, 1), (1, 1))))
        self.assert_no_case(with_test(WIDE, ((0, 0),) * 6_000))

    def test_pairs_outside_kinds_and_values(self):
        for pair in ((-1, 0), (0, -1), (1, 0), (0, 2), (0, 10 ** 59), (-10 ** 59, 0)):
            self.assert_no_case(with_test(SMALL, (pair,)))
        for pair in ((2, 0), (0, 3), (2, 3), (-1, -1)):
            self.assert_no_case(with_test(WIDE, (pair,)))
        self.assertIs(is_case(with_test(WIDE, ((1, 2),))), True)
        # Kinds and values are not to be mistaken for each other.
        self.assertIs(is_case((1, 1, 2, ((1, 0),), False)), True)
        self.assert_no_case((1, 1, 2, ((0, 1),), False))
        self.assertIs(is_case((1, 2, 1, ((0, 1),), False)), True)
        self.assert_no_case((1, 2, 1, ((1, 0),), False))
        self.assert_no_case((3, 1, 1, ((2, 0),), False))
        self.assert_no_case((3, 1, 1, ((0, 2),), False))

    def test_pairs_of_other_lengths(self):
        for pair in ((), (0,), (0, 1, 0), (0, 0, 1), ((0, 1),)):
            self.assert_no_case(with_test(SMALL, (pair,)))

    def test_a_wrong_pair_anywhere_in_the_test(self):
        for at in range(3):
            for wrong in (None, 0, 'ab', (0, None), ('0', 1), {}, (0, (1,))):
                self.assert_no_case(with_test(WIDE, with_part(WIDE[3], at, wrong)))

    def test_cases_of_other_lengths(self):
        for case in (SMALL, PAIR, WIDE):
            for length in range(5):
                self.assert_no_case(case[:length])
            self.assert_no_case(case + (False,))
            self.assert_no_case(case + ((),))
            self.assert_no_case((case,))

    def test_values_that_are_no_tuple_or_no_case_at_all(self):
        for value in STRANGE_VALUES + [True, False, 0, 1, 5, (), SMALL[3], [SMALL], {SMALL: SMALL}]:
            self.assert_no_case(value)

    def test_parts_of_any_other_kind(self):
        for case in (SMALL, PAIR, WIDE):
            for at in range(5):
                for strange in STRANGE_VALUES:
                    self.assert_no_case(with_part(case, at, strange))

    def test_the_value_is_not_changed(self):
        for value in STRANGE_VALUES + [listed(WIDE), with_test(WIDE, listed(WIDE[3]))]:
            before = copy.deepcopy(value)
            is_case(value)
            self.assertEqual(value, before)


class Passing(unittest.TestCase):
    def test_the_examples_of_the_document(self):
        self.assertEqual(
            [value_passes(SMALL, 1), value_passes(SMALL, 0), value_passes(SMALL, -1),
             pair_passes(SMALL, 0, 1), pair_passes(SMALL, 0, 0)],
            [True, False, False, True, False])

    def test_an_absent_parent_never_passes(self):
        for case in all_cases():
            self.assertIs(value_passes(case, -1), False)
            for kind in range(case[2]):
                self.assertIs(pair_passes(case, kind, -1), False)

    def test_a_value_passes_by_any_kind(self):
        self.assertEqual([value_passes(WIDE, value) for value in (-1, 0, 1, 2)],
                         [False, True, True, True])
        only_kind_1 = (1, 3, 2, ((1, 2),), False)
        self.assertEqual([value_passes(only_kind_1, value) for value in (-1, 0, 1, 2)],
                         [False, False, False, True])
        # A kind in the test is not a value that passes.
        self.assertIs(value_passes((1, 2, 2, ((1, 0),), False), 1), False)

    def test_a_kind_and_a_value_pass_together_only_as_a_pair(self):
        passing = [(kind, value) for kind in (0, 1) for value in (-1, 0, 1, 2)
                   if pair_passes(WIDE, kind, value)]
        self.assertEqual(passing, [(0, 0), (0, 2), (1, 1)])

    def test_nothing_passes_an_empty_test(self):
        empty = (3, 3, 2, (), True)
        for value in (-1, 0, 1, 2):
            self.assertIs(value_passes(empty, value), False)
            self.assertIs(pair_passes(empty, 1, value), False)

    def test_every_case(self):
        for case in all_cases():
            pairs = set(case[3])
            for value in range(case[1]):
                by_kind = [pair_passes(case, kind, value) for kind in range(case[2])]
                self.assertEqual(by_kind, [(kind, value) in pairs for kind in range(case[2])])
                self.assertIs(value_passes(case, value), any(by_kind))


if __name__ == '__main__':
    unittest.main()
