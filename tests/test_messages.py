"""Tests of somerows.messages: points [2] and [7]."""

import copy
import unittest

import model
from samples import BARE, JOINT, PAIR, SAFE, SMALL, all_sources, all_tests, every_plan, plan_with
from somerows.messages import messages_of
from somerows.sources import commits

JOINT_PAIR = (2, 2, 2, ((0, 1), (1, 0)), True)
THREE = (1, 3, 1, ((0, 1), (0, 2)), False)

COMING = ((0,), (0, 0)), (('parent', 0, 1),)
GOING = ((1,), (0, 0)), (('parent', 0, 0),)


def child_only(case, plan, source, state):
    return messages_of(case, plan, source, (('child', state),))


def parent_only(case, plan, source, p, state):
    return messages_of(case, plan, source, (('parent', p, state),))


class Examples(unittest.TestCase):
    def test_the_examples_of_the_document(self):
        self.assertEqual(
            [messages_of(SMALL, SAFE, ((0,), (0, 0)), (('parent', 0, 1),)),
             messages_of(SMALL, SAFE, ((1,), ()), (('child', (0, 0)),))],
            [((('parent', 0, 1, (0,)),),), ((('child', (0, 0), 1),),)])
        self.assertEqual(
            [messages_of(SMALL, BARE, ((0,), (0, 0)), (('parent', 0, 1),)),
             messages_of(SMALL, BARE[:2] + ('now',) + BARE[3:], ((1,), (0, 0)), (('child', ()),))],
            [((('parent', 0, 1, ()),), None), (None, ())])


class ParentEntries(unittest.TestCase):
    def test_the_kind_is_told_only_if_the_child_refers_to_the_parent(self):
        case = (2, 2, 2, ((1, 1),), False)
        for tells, told in ((True, (1,)), (False, ())):
            plan = plan_with(SAFE, tells_children=tells)
            self.assertEqual(parent_only(case, plan, ((0, 0), (1, 0)), 0, 1),
                             ((('parent', 0, 1, told),),))
            self.assertEqual(parent_only(case, plan, ((0, 0), (1, 1)), 1, 1),
                             ((('parent', 1, 1, told),),))
            self.assertEqual(parent_only(case, plan, ((0, 0), (1, 0)), 1, 1),
                             ((('parent', 1, 1, ()),),))
            self.assertEqual(parent_only(case, plan, ((0, 0), ()), 0, 1),
                             ((('parent', 0, 1, ()),),))

    def test_the_kind_is_told_whether_the_child_passes_or_not(self):
        for source, commit in (COMING, GOING):
            state = commit[0][2]
            self.assertEqual(messages_of(SMALL, SAFE, source, commit),
                             ((('parent', 0, state, (0,)),),))

    def test_the_child_after_the_commit_is_told(self):
        # The child comes to the parent, goes away from it, or changes its kind.
        first, second = ('parent', 0, 1), ('child', (1, 0))
        for before, after, told in (((), (1, 0), (1,)), ((0, 1), (1, 0), (1,)), ((1, 0), (), ()),
                                    ((1, 0), (1, 1), ()), ((0, 0), (1, 0), (1,))):
            commit = (first, ('child', after))
            message, = messages_of(JOINT_PAIR, SAFE, ((0, 0), before), commit)
            self.assertEqual(message[0], ('parent', 0, 1, told))
        message, = messages_of(JOINT_PAIR, SAFE, ((-1, -1), ()), (first, second))
        self.assertEqual(message, (('parent', 0, 1, (1,)), ('child', (1, 0), 1)))

    def test_a_parent_that_goes_tells_no_child(self):
        self.assertEqual(parent_only(SMALL, SAFE, ((1,), ()), 0, -1), ((('parent', 0, -1, ()),),))

    def test_telling_values_does_not_matter(self):
        for tells in (False, True):
            plan = plan_with(SAFE, tells_value=tells)
            self.assertEqual(messages_of(SMALL, plan, *COMING), ((('parent', 0, 1, (0,)),),))

    def test_which_are_sent(self):
        # Value 0 does not pass; 1 and 2 do.
        sent = {
            'all': [(-1, 0), (-1, 1), (0, -1), (0, 1), (1, -1), (1, 0), (1, 2), (2, 1)],
            'either': [(-1, 1), (0, 1), (1, -1), (1, 0), (1, 2), (2, 1)],
            'now': [(-1, 1), (0, 1), (1, 2), (2, 1)],
        }
        for sending, pairs in sent.items():
            plan = plan_with(SAFE, parents=sending, children='now')
            for old, new in sent['all']:
                expected = (('parent', 0, new, ()),) if (old, new) in pairs else ()
                self.assertEqual(parent_only(THREE, plan, ((old,), ()), 0, new), (expected,))

    def test_a_value_that_passes_with_any_kind_counts(self):
        case = (1, 2, 2, ((1, 1),), False)
        plan = plan_with(SAFE, parents='now')
        # The child of kind 0 does not pass, but the parent does.
        self.assertEqual(parent_only(case, plan, ((0,), (0, 0)), 0, 1),
                         ((('parent', 0, 1, (0,)),),))

    def test_each_parent_by_its_own_state(self):
        plan = plan_with(SAFE, parents='either')
        self.assertEqual(parent_only(PAIR, plan, ((1, -1), ()), 1, 0), ((),))
        self.assertEqual(parent_only(PAIR, plan, ((-1, 1), ()), 1, 0),
                         ((('parent', 1, 0, ()),),))


class ChildEntries(unittest.TestCase):
    def test_the_value_of_the_parent_of_the_new_state_is_told(self):
        source = ((0, 1), (0, 0))
        self.assertEqual(child_only(PAIR, SAFE, source, (0, 1)), ((('child', (0, 1), 1),),))
        self.assertEqual(child_only(PAIR, SAFE, ((0, 1), (0, 1)), (0, 0)),
                         ((('child', (0, 0), 0),),))
        self.assertEqual(child_only(PAIR, plan_with(SAFE, tells_value=False), source, (0, 1)),
                         ((('child', (0, 1), -1),),))

    def test_a_child_that_goes_tells_no_value(self):
        for tells in (False, True):
            plan = plan_with(SAFE, tells_value=tells)
            self.assertEqual(child_only(SMALL, plan, ((1,), (0, 0)), ()), ((('child', (), -1),),))

    def test_the_value_after_the_commit_is_told(self):
        commit = (('parent', 0, 1), ('child', (0, 0)))
        for before in (((0,), ()), ((-1,), ())):
            message, = messages_of(JOINT, SAFE, before, commit)
            self.assertEqual(message[1], ('child', (0, 0), 1))

    def test_telling_children_does_not_matter(self):
        for tells in (False, True):
            plan = plan_with(SAFE, tells_children=tells)
            self.assertEqual(child_only(SMALL, plan, ((1,), ()), (0, 0)),
                             ((('child', (0, 0), 1),),))

    def test_which_are_sent(self):
        # Of parents 0, 1 the child passes with parent 1 alone.
        states = [(), (0, 0), (0, 1)]
        sent = {
            'all': [(old, new) for old in states for new in states if old != new],
            'either': [((), (0, 1)), ((0, 0), (0, 1)), ((0, 1), ()), ((0, 1), (0, 0))],
            'now': [((), (0, 1)), ((0, 0), (0, 1))],
        }
        for sending, pairs in sent.items():
            plan = plan_with(SAFE, children=sending, parents='now')
            for old, new in sent['all']:
                value = {(): -1, (0, 0): 0, (0, 1): 1}[new]
                expected = (('child', new, value),) if (old, new) in pairs else ()
                self.assertEqual(child_only(PAIR, plan, ((0, 1), old), new), (expected,))

    def test_the_child_passes_before_by_its_parent_before(self):
        # The child passed with value 1 and changes to a kind that does not pass with value 0.
        case = (1, 2, 2, ((0, 1),), True)
        commit = (('parent', 0, 0), ('child', (1, 0)))
        for sending, sent in (('all', True), ('either', True), ('now', False)):
            plan = plan_with(BARE, children=sending)
            expected = (('child', (1, 0), -1),) if sent else ()
            self.assertEqual(messages_of(case, plan, ((1,), (0, 0)), commit)[1], expected)
        # With value 0 it did not pass, though by the new value it would have.
        commit = (('parent', 0, 1), ('child', (1, 0)))
        plan = plan_with(BARE, children='either')
        self.assertEqual(messages_of(case, plan, ((0,), (0, 0)), commit)[1], ())


class Lanes(unittest.TestCase):
    def test_a_lane_that_is_not_touched_has_none(self):
        self.assertEqual(parent_only(SMALL, BARE, ((-1,), ()), 0, 0),
                         ((('parent', 0, 0, ()),), None))
        self.assertEqual(child_only(SMALL, BARE, ((0,), ()), (0, 0)),
                         (None, (('child', (0, 0), -1),)))

    def test_what_is_not_sent_takes_a_place_all_the_same(self):
        deaf = plan_with(BARE, children='now', parents='now')
        self.assertEqual(parent_only(SMALL, deaf, ((-1,), ()), 0, 0), ((), None))
        self.assertEqual(child_only(SMALL, deaf, ((0,), ()), (0, 0)), (None, ()))
        alone = plan_with(deaf, lanes=1)
        self.assertEqual(parent_only(SMALL, alone, ((-1,), ()), 0, 0), ((),))
        self.assertEqual(child_only(SMALL, alone, ((0,), ()), (0, 0)), ((),))

    def test_a_commit_of_both_in_one_lane_and_in_two(self):
        source, commit = ((0,), ()), (('parent', 0, 1), ('child', (0, 0)))
        parent, child = ('parent', 0, 1, (0,)), ('child', (0, 0), 1)
        self.assertEqual(messages_of(JOINT, SAFE, source, commit), ((parent, child),))
        self.assertEqual(messages_of(JOINT, plan_with(SAFE, lanes=2), source, commit),
                         ((parent,), (child,)))

    def test_a_commit_of_both_of_which_one_is_sent_or_none(self):
        coming = ((-1,), ()), (('parent', 0, 1), ('child', (0, 0)))
        going = ((1,), (0, 0)), (('parent', 0, -1), ('child', ()))
        parent, child = ('parent', 0, -1, ()), ('child', (), -1)
        for children, parents in (('all', 'now'), ('now', 'all'), ('now', 'now')):
            plan = plan_with(SAFE, children=children, parents=parents)
            self.assertEqual(messages_of(JOINT, plan, *coming),
                             ((('parent', 0, 1, (0,)), ('child', (0, 0), 1)),))
            of_parent = (parent,) if parents == 'all' else ()
            of_child = (child,) if children == 'all' else ()
            self.assertEqual(messages_of(JOINT, plan, *going), (of_parent + of_child,))
            self.assertEqual(messages_of(JOINT, plan_with(plan, lanes=2), *going),
                             (of_parent, of_child))

    def test_late_looking_again_and_anew_do_not_matter(self):
        for source in all_sources(1, 2, 1):
            for commit in commits(JOINT, source):
                for lanes in (1, 2):
                    plan = plan_with(SAFE, lanes=lanes)
                    expected = messages_of(JOINT, plan, source, commit)
                    for other in (plan_with(plan, late=2), plan_with(plan, looks_again=False),
                                  plan_with(plan, anew='cut'), plan_with(plan, anew='kept')):
                        self.assertEqual(messages_of(JOINT, other, source, commit), expected)


class AllCommits(unittest.TestCase):
    def assert_as_the_model(self, case, plans):
        for source in all_sources(*case[:3]):
            for commit in commits(case, source):
                for plan in plans:
                    self.assertEqual(messages_of(case, plan, source, commit),
                                     model.messages(case, plan, source, commit),
                                     (case, plan, source, commit))

    def test_every_plan_in_cases_of_one_parent(self):
        plans = every_plan(late=(1,), anew=('never',))
        for joint in (False, True):
            for test in all_tests(2, 1):
                self.assert_as_the_model((1, 2, 1, test, joint), plans)

    def test_every_plan_in_cases_of_two_parents_or_kinds(self):
        plans = every_plan(late=(2,), anew=('kept',))
        self.assert_as_the_model((2, 2, 1, ((0, 1),), True), plans)
        self.assert_as_the_model((1, 2, 2, ((0, 1), (1, 0)), True), plans)

    def test_the_widest_case(self):
        plans = [(1, 1, 'either', 'either', True, True, False, 'never'),
                 (2, 1, 'now', 'either', True, True, True, 'cut')]
        self.assert_as_the_model((3, 3, 2, ((0, 0), (0, 2), (1, 2)), False), plans)
        self.assert_as_the_model((3, 1, 2, ((1, 0),), True), plans)

    def test_tuples_throughout_and_no_argument_changes(self):
        for plan in (SAFE, BARE, plan_with(BARE, children='now', parents='either')):
            for source in all_sources(2, 2, 2):
                for commit in commits(JOINT_PAIR, source):
                    arguments = [JOINT_PAIR, plan, source, commit]
                    before = copy.deepcopy(arguments)
                    messages = messages_of(*arguments)
                    self.assertEqual(arguments, before)
                    self.assertIs(type(messages), tuple)
                    self.assertEqual(len(messages), plan[0])
                    for message in messages:
                        self.assertIn(type(message), (tuple, type(None)))
                        for entry in message or ():
                            self.assertIs(type(entry), tuple)
                    self.assertEqual(messages_of(*before), messages)


if __name__ == '__main__':
    unittest.main()
