"""Tests of somerows.copies: points [2] and [8]."""

import copy
import itertools
import unittest

import model
from samples import BARE, PAIR, SAFE, SMALL, STRANGE_VALUES, all_cases, all_copies, all_shapes
from samples import all_tests, every_plan, listed, plan_with, with_part
from somerows.copies import is_copy, received
from somerows.plans import all_plans

# Of the values 0, 1, 2 of WIDE all pass by some kind; of THREE's 0 does not.
WIDE = (3, 3, 2, ((0, 0), (0, 2), (1, 1)), True)
THREE = (2, 3, 1, ((0, 1), (0, 2)), False)
KINDS = (2, 2, 2, ((0, 1), (1, 0)), False)


def all_entries(case):
    """Return every entry of the case, whether a commit gives it or not."""
    n, values, kinds = case[:3]
    states = range(-1, values)
    told = [()] + [(kind,) for kind in range(kinds)]
    children = [()] + list(itertools.product(range(kinds), range(n)))
    return ([('parent', p, state, kind) for p in range(n) for state in states for kind in told]
            + [('child', state, value) for state in children for value in states])


class IsCopy(unittest.TestCase):
    def assert_no_copy(self, case, value):
        self.assertIs(is_copy(case, value), False, (case, value))

    def test_the_examples_of_the_document(self):
        self.assertEqual(
            [is_copy(SMALL, ((-1,), (0, 0))), is_copy(SMALL, ((0,), ()))], [True, False])

    def test_every_copy_is_one(self):
        for case in all_cases():
            if case[0] == 3 and len(case[3]) > 1:
                continue
            for value in all_copies(case):
                self.assertIs(is_copy(case, value), True, (case, value))

    def test_a_child_may_refer_to_an_absent_parent_or_fail_its_test(self):
        for child in ((0, 0), (0, 1), (1, 0), (1, 1)):
            self.assertIs(is_copy(KINDS, ((-1, -1), child)), True)
            self.assertIs(is_copy(KINDS, ((1, 0), child)), True)

    def test_values_that_do_not_pass(self):
        self.assert_no_copy(SMALL, ((0,), ()))
        self.assert_no_copy(SMALL, ((0,), (0, 0)))
        self.assert_no_copy(PAIR, ((1, 0), ()))
        self.assert_no_copy(PAIR, ((0, 1), (0, 1)))
        self.assert_no_copy(THREE, ((-1, 0), ()))
        # The kind 1 is no value that passes.
        self.assert_no_copy((1, 2, 2, ((1, 0),), False), ((1,), ()))
        for state in (0, 1, 2):
            self.assert_no_copy((1, 3, 2, (), False), ((state,), ()))

    def test_states_of_parents_at_and_beyond_their_bounds(self):
        for n, values, kinds, joint in all_shapes():
            every = tuple(itertools.product(range(kinds), range(values)))
            case = (n, values, kinds, every, joint)
            absent = (-1,) * n
            for p in range(n):
                for state in (-1, 0, values - 1):
                    self.assertIs(is_copy(case, (with_part(absent, p, state), ())), True)
                for state in (-2, values, 10 ** 59, -10 ** 59):
                    self.assert_no_copy(case, (with_part(absent, p, state), ()))

    def test_states_of_the_child_at_and_beyond_their_bounds(self):
        for n, values, kinds, joint in all_shapes():
            case = (n, values, kinds, ((0, 0),), joint)
            for parents in ((-1,) * n, (0,) * n):
                for child in ((), (0, 0), (kinds - 1, n - 1)):
                    self.assertIs(is_copy(case, (parents, child)), True)
                for child in ((-1, 0), (kinds, 0), (0, -1), (0, n), (10 ** 59, 0), (0, -10 ** 59),
                              (0,), (0, 0, 0), ((),), ((0, 0),), (0, ()), (None, 0)):
                    self.assert_no_copy(case, (parents, child))

    def test_other_numbers_of_parents(self):
        for parents in ((), (1, 1), (-1, -1, -1)):
            self.assert_no_copy(SMALL, (parents, ()))
        for parents in ((), (1,), (1, 1, 1)):
            self.assert_no_copy(PAIR, (parents, ()))

    def test_a_bool_is_no_integer(self):
        self.assert_no_copy(SMALL, ((True,), ()))
        self.assert_no_copy(SMALL, ((1,), (False, 0)))
        self.assert_no_copy(SMALL, ((1,), (0, False)))
        self.assert_no_copy(KINDS, ((1, False), ()))
        self.assert_no_copy(KINDS, ((1, 0), (True, 0)))
        self.assert_no_copy(KINDS, ((1, 0), (0, True)))

    def test_a_list_is_no_tuple(self):
        self.assert_no_copy(SMALL, [(1,), ()])
        self.assert_no_copy(SMALL, ([1], ()))
        self.assert_no_copy(SMALL, ((1,), []))
        self.assert_no_copy(SMALL, ((1,), [0, 0]))
        self.assert_no_copy(SMALL, listed(((1,), (0, 0))))

    def test_copies_of_other_lengths(self):
        for value in ((), ((1,),), ((1,), (), ()), ((1,), (0, 0), 0), ((1,), 0, 0), (1, ())):
            self.assert_no_copy(SMALL, value)

    def test_other_values(self):
        right = ((1, 1, 1), (0, 0))
        for value in STRANGE_VALUES + [True, False, 0, 1, [right], {right: right}, (right,)]:
            self.assert_no_copy(WIDE, value)

    def test_parts_of_any_other_kind(self):
        right = ((1, 1, 1), (0, 0))
        for strange in STRANGE_VALUES:
            self.assert_no_copy(WIDE, (strange, ()))
            self.assert_no_copy(WIDE, ((0, 0, 0), strange))
            for part in (0, 1):
                for at in range(len(right[part])):
                    value = with_part(right, part, with_part(right[part], at, strange))
                    self.assert_no_copy(WIDE, value)

    def test_the_value_is_not_changed(self):
        for value in STRANGE_VALUES + [[[1], [0, 0]], ([1], ()), ((1,), [0, 0])]:
            before = copy.deepcopy(value)
            is_copy(SMALL, value)
            self.assertEqual(value, before)


class ParentEntries(unittest.TestCase):
    def assert_received(self, case, plan, before, entry, after):
        self.assertEqual(received(case, plan, before, (entry,)), after)

    def test_a_state_that_passes_and_one_that_does_not(self):
        for plan in (SAFE, BARE):
            for old in (-1, 1, 2):
                for state, kept in ((-1, -1), (0, -1), (1, 1), (2, 2)):
                    self.assert_received(THREE, plan, ((old, 1), ()), ('parent', 0, state, ()),
                                         ((kept, 1), ()))
                    self.assert_received(THREE, plan, ((2, old), ()), ('parent', 1, state, ()),
                                         ((2, kept), ()))

    def test_a_told_child_that_passes_comes(self):
        for plan in (SAFE, plan_with(SAFE, looks_again=False)):
            for child in ((), (0, 0), (0, 1), (1, 0), (1, 1)):
                self.assert_received(KINDS, plan, ((-1, 1), child), ('parent', 0, 0, (1,)),
                                     ((0, 1), (1, 0)))
                self.assert_received(KINDS, plan, ((-1, 1), child), ('parent', 1, 1, (0,)),
                                     ((-1, 1), (0, 1)))

    def test_a_told_child_that_does_not_pass_goes(self):
        for plan in (SAFE, plan_with(SAFE, looks_again=False)):
            for child in ((), (0, 0), (0, 1), (1, 0), (1, 1)):
                # The parent passes by the other kind, or not at all.
                self.assert_received(KINDS, plan, ((-1, 1), child), ('parent', 0, 0, (0,)),
                                     ((0, 1), ()))
        self.assert_received(SMALL, SAFE, ((1,), (0, 0)), ('parent', 0, 0, (0,)), ((-1,), ()))

    def test_nothing_told_and_not_looking_again_leaves_the_child(self):
        for plan in (BARE, plan_with(SAFE, looks_again=False)):
            for child in ((), (0, 0), (0, 1), (1, 0), (1, 1)):
                for state in (-1, 0, 1):
                    self.assert_received(KINDS, plan, ((0, 1), child), ('parent', 0, state, ()),
                                         ((state, 1), child))

    def test_looking_again_removes_a_child_that_does_not_pass(self):
        for plan in (plan_with(BARE, looks_again=True), SAFE):
            self.assert_received(KINDS, plan, ((1, -1), (0, 0)), ('parent', 0, 0, ()),
                                 ((0, -1), ()))
            self.assert_received(KINDS, plan, ((1, -1), (0, 0)), ('parent', 0, -1, ()),
                                 ((-1, -1), ()))
            self.assert_received(KINDS, plan, ((-1, -1), (1, 0)), ('parent', 0, 1, ()),
                                 ((1, -1), ()))
            self.assert_received(KINDS, plan, ((-1, -1), (0, 0)), ('parent', 0, 1, ()),
                                 ((1, -1), (0, 0)))

    def test_looking_again_leaves_a_child_of_another_parent(self):
        plan = plan_with(BARE, looks_again=True)
        for child in ((0, 1), (1, 1)):
            for other in (-1, 0, 1):
                for state in (-1, 0, 1):
                    self.assert_received(KINDS, plan, ((0, other), child),
                                         ('parent', 0, state, ()), ((state, other), child))


class ChildEntries(unittest.TestCase):
    def assert_received(self, case, plan, before, entry, after):
        self.assertEqual(received(case, plan, before, (entry,)), after)

    def test_a_child_that_goes(self):
        for plan in (SAFE, BARE):
            for parents in ((-1, -1), (1, 0)):
                for child in ((), (0, 0), (1, 1)):
                    self.assert_received(KINDS, plan, (parents, child), ('child', (), -1),
                                         (parents, ()))

    def test_with_values_told_the_told_value_counts(self):
        # What the copy has for the parent does not matter, absent or not.
        for parents in ((-1, -1), (0, 0), (1, 1)):
            for child in ((), (1, 1)):
                self.assert_received(KINDS, SAFE, (parents, child), ('child', (0, 0), 1),
                                     (parents, (0, 0)))
                self.assert_received(KINDS, SAFE, (parents, child), ('child', (0, 0), 0),
                                     (parents, ()))
                self.assert_received(KINDS, SAFE, (parents, child), ('child', (1, 0), 1),
                                     (parents, ()))
                self.assert_received(KINDS, SAFE, (parents, child), ('child', (1, 1), 0),
                                     (parents, (1, 1)))

    def test_with_values_not_told_the_copy_counts(self):
        for parents, child, kept in (((1, -1), (0, 0), True), ((0, -1), (0, 0), False),
                                     ((0, -1), (1, 0), True), ((-1, 1), (0, 0), False),
                                     ((-1, 1), (0, 1), True), ((-1, -1), (0, 1), False)):
            for old in ((), (0, 0), (1, 1)):
                self.assert_received(KINDS, BARE, (parents, old), ('child', child, -1),
                                     (parents, child if kept else ()))

    def test_with_values_not_told_an_absent_parent_never_passes(self):
        for case in all_cases():
            if case[0] == 3:
                continue
            absent = (-1,) * case[0]
            for kind, p in itertools.product(range(case[2]), range(case[0])):
                for old in ((), (kind, p)):
                    self.assert_received(case, BARE, (absent, old), ('child', (kind, p), -1),
                                         (absent, ()))

    def test_looking_again_and_telling_children_do_not_matter(self):
        for entry in [entry for entry in all_entries(KINDS) if entry[0] == 'child']:
            for before in all_copies(KINDS):
                for base in (SAFE, BARE):
                    self.assertEqual(len({received(KINDS, plan_with(base, tells_children=tells,
                                                                    looks_again=looks),
                                                   before, (entry,))
                                          for tells in (False, True) for looks in (False, True)}),
                                     1)


class Messages(unittest.TestCase):
    def test_the_examples_of_the_document(self):
        self.assertEqual(
            [received(SMALL, SAFE, ((-1,), ()), (('parent', 0, 1, (0,)),)),
             received(SMALL, BARE, ((-1,), ()), (('child', (0, 0), -1),)),
             received(SMALL, BARE, ((1,), (0, 0)), (('parent', 0, 0, ()),))],
            [((1,), (0, 0)), ((-1,), ()), ((-1,), (0, 0))])
        self.assertEqual(received(SMALL, SAFE, ((1,), (0, 0)), (('child', (), -1),)), ((1,), ()))

    def test_the_message_without_entries_changes_nothing(self):
        for plan in (SAFE, BARE):
            for before in all_copies(KINDS):
                self.assertEqual(received(KINDS, plan, before, ()), before)

    def test_two_entries_in_their_order(self):
        plan = plan_with(BARE, lanes=1)
        message = (('parent', 0, 1, ()), ('child', (0, 0), -1))
        self.assertEqual(received(SMALL, plan, ((-1,), ()), message), ((1,), (0, 0)))
        self.assertEqual(received(SMALL, plan, ((-1,), ()), message[::-1]), ((1,), ()))
        # Told by the parent's entry, the child comes; by its own it goes.
        message = (('parent', 0, 1, (0,)), ('child', (), -1))
        self.assertEqual(received(SMALL, SAFE, ((-1,), ()), message), ((1,), ()))
        self.assertEqual(received(SMALL, SAFE, ((-1,), ()), message[::-1]), ((1,), (0, 0)))

    def test_two_entries_are_as_two_messages(self):
        entries = all_entries(KINDS)
        plans = [plan for plan in every_plan((1,), (1,), ('never',)) if plan[2] == plan[3] == 'all']
        for first, second in itertools.product(entries[::2], entries[1::3]):
            for plan in plans[::3]:
                before = ((0, -1), (1, 0))
                between = received(KINDS, plan, before, (first,))
                self.assertEqual(received(KINDS, plan, before, (first, second)),
                                 received(KINDS, plan, between, (second,)))

    def test_all_as_the_model(self):
        cases = [(n, 2, kinds, test, False) for n, kinds in ((1, 1), (2, 1), (1, 2))
                 for test in all_tests(2, kinds)]
        for case in cases + [THREE, (3, 1, 2, ((1, 0),), False)]:
            for plan in every_plan((1,), (1,), ('never',)):
                if plan[2] != 'all' or plan[3] != 'all':
                    continue
                for before in all_copies(case):
                    for entry in all_entries(case):
                        after = received(case, plan, before, (entry,))
                        self.assertEqual(after, model.received(case, plan, before, (entry,)))
                        self.assertIs(is_copy(case, after), True)

    def test_what_is_sent_and_when_does_not_matter(self):
        message = (('parent', 0, 0, (1,)), ('child', (0, 1), 1))
        before = ((1, 1), (0, 0))
        for plan in all_plans(1, 1, 'never'):
            base = plan_with(plan, children='all', parents='all')
            for other in (plan, plan_with(plan, lanes=2), plan_with(plan, late=2),
                          plan_with(plan, anew='cut'), plan_with(plan, anew='kept')):
                self.assertEqual(received(KINDS, other, before, message),
                                 received(KINDS, base, before, message))

    def test_tuples_throughout_and_no_argument_changes(self):
        for plan in (SAFE, BARE):
            for before in all_copies(KINDS):
                for entry in all_entries(KINDS):
                    arguments = [KINDS, plan, before, (entry, entry)]
                    kept = copy.deepcopy(arguments)
                    after = received(*arguments)
                    self.assertEqual(arguments, kept)
                    self.assertEqual([type(part) for part in (after,) + after], [tuple] * 3)
                    self.assertEqual(received(*kept), after)


if __name__ == '__main__':
    unittest.main()
