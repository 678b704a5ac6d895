"""Tests of somerows.sources: points [2] and [5]."""

import copy
import unittest

from samples import PAIR, SMALL, STRANGE_VALUES, all_cases, all_shapes, all_sources
from samples import all_tests, listed, with_part
from somerows.sources import after_commit, child_passes, commits, is_source, wished

WIDE = (3, 3, 2, ((0, 0), (0, 2), (1, 1)), True)
JOINT = (1, 2, 1, ((0, 1),), True)


def plain_case(n, values, kinds, joint):
    return (n, values, kinds, (), joint)


def commit_between(source, target, joint):
    """Return the one commit that leads to the target, or None if none does."""
    changes = [('parent', p, new)
               for p, (old, new) in enumerate(zip(source[0], target[0])) if old != new]
    several = len(changes) > 1
    if source[1] != target[1]:
        if changes and not joint:
            return None
        changes.append(('child', target[1]))
    return tuple(changes) if changes and not several else None


class IsSource(unittest.TestCase):
    def assert_no_source(self, case, value):
        self.assertIs(is_source(case, value), False, (case, value))

    def test_the_examples_of_the_document(self):
        self.assertEqual(
            [is_source(SMALL, ((1,), (0, 0))), is_source(SMALL, ((-1,), (0, 0)))], [True, False])

    def test_every_source_is_one(self):
        for n, values, kinds, joint in all_shapes():
            for source in all_sources(n, values, kinds):
                self.assertIs(is_source(plain_case(n, values, kinds, joint), source), True, source)

    def test_states_of_parents_at_and_beyond_their_bounds(self):
        for n, values, kinds, joint in all_shapes():
            case = plain_case(n, values, kinds, joint)
            for p in range(n):
                absent = (-1,) * n
                for state in (-1, 0, values - 1):
                    self.assertIs(is_source(case, (with_part(absent, p, state), ())), True)
                for state in (-2, values, 10 ** 59, -10 ** 59):
                    self.assert_no_source(case, (with_part(absent, p, state), ()))

    def test_states_of_the_child_at_and_beyond_their_bounds(self):
        for n, values, kinds, joint in all_shapes():
            case = plain_case(n, values, kinds, joint)
            parents = (0,) * n
            for child in ((), (0, 0), (kinds - 1, n - 1)):
                self.assertIs(is_source(case, (parents, child)), True)
            for child in ((-1, 0), (kinds, 0), (0, -1), (0, n), (0, -n), (10 ** 59, 0),
                          (0, 10 ** 59), (0, -10 ** 59)):
                self.assert_no_source(case, (parents, child))

    def test_a_child_that_refers_to_an_absent_parent(self):
        for n, values, kinds, joint in all_shapes():
            case = plain_case(n, values, kinds, joint)
            for p in range(n):
                for kind in range(kinds):
                    self.assert_no_source(case, (with_part((0,) * n, p, -1), (kind, p)))
                    self.assertIs(is_source(case, (with_part((-1,) * n, p, 0), (kind, p))), True)

    def test_other_numbers_of_parents(self):
        for parents in ((), (0, 0), (1, -1), (-1, -1, -1)):
            self.assert_no_source(SMALL, (parents, ()))
        for parents in ((), (0,), (0, 0, 0)):
            self.assert_no_source(PAIR, (parents, ()))
        self.assert_no_source(SMALL, ((1, 1), (0, 1)))
        self.assert_no_source(WIDE, ((0,) * 4, (0, 0)))

    def test_a_bool_is_no_integer(self):
        self.assert_no_source(SMALL, ((True,), ()))
        self.assert_no_source(SMALL, ((False,), ()))
        self.assert_no_source(PAIR, ((0, True), (0, 0)))
        self.assert_no_source(SMALL, ((1,), (False, 0)))
        self.assert_no_source(SMALL, ((1,), (0, False)))
        self.assert_no_source(WIDE, ((1, 1, 1), (True, 1)))
        self.assert_no_source(WIDE, ((1, 1, 1), (1, True)))

    def test_a_list_is_no_tuple(self):
        self.assert_no_source(SMALL, [(1,), (0, 0)])
        self.assert_no_source(SMALL, ([1], (0, 0)))
        self.assert_no_source(SMALL, ((1,), [0, 0]))
        self.assert_no_source(SMALL, ((1,), []))
        self.assert_no_source(SMALL, listed(((1,), (0, 0))))

    def test_a_child_of_other_lengths(self):
        for child in ((0,), (0, 0, 0), ((),), ((0, 0),)):
            self.assert_no_source(SMALL, ((1,), child))

    def test_sources_of_other_lengths(self):
        for value in ((), ((1,),), ((1,), (), ()), ((1,), (0, 0), 0), ((1,), 0, 0)):
            self.assert_no_source(SMALL, value)

    def test_other_values(self):
        right = ((1, 1, 1), (0, 0))
        for value in STRANGE_VALUES + [True, False, 0, 1, [right], {right: right}, (right,)]:
            self.assert_no_source(WIDE, value)

    def test_parts_of_any_other_kind(self):
        right = ((1, 1, 1), (0, 0))
        for strange in STRANGE_VALUES:
            self.assert_no_source(WIDE, (strange, ()))
            self.assert_no_source(WIDE, ((0, 0, 0), strange))
            for part in (0, 1):
                for at in range(len(right[part])):
                    value = with_part(right, part, with_part(right[part], at, strange))
                    self.assert_no_source(WIDE, value)

    def test_the_value_is_not_changed(self):
        for value in STRANGE_VALUES + [[[1], [0, 0]], ([1], ()), ((1,), [0, 0])]:
            before = copy.deepcopy(value)
            is_source(SMALL, value)
            self.assertEqual(value, before)


class Passing(unittest.TestCase):
    def test_the_examples_of_the_document(self):
        self.assertEqual(
            [wished(SMALL, ((1,), (0, 0))), wished(SMALL, ((0,), (0, 0)))],
            [((1,), (0, 0)), ((-1,), ())])

    def test_an_absent_child_does_not_pass(self):
        for parents in ((-1,), (0,), (1,)):
            self.assertIs(child_passes(SMALL, (parents, ())), False)

    def test_the_child_passes_by_its_own_kind_and_the_value_of_its_own_parent(self):
        parents = (0, 1, 2)
        passing = [(kind, p) for kind in (0, 1) for p in (0, 1, 2)
                   if child_passes(WIDE, (parents, (kind, p)))]
        self.assertEqual(passing, [(0, 0), (0, 2), (1, 1)])
        # The value counts, not the number of the parent.
        passing = [(kind, p) for kind in (0, 1) for p in (0, 1, 2)
                   if child_passes(WIDE, ((1, -1, 1), (kind, p)) if p != 1 else ((1, 0, 1), (kind, p)))]
        self.assertEqual(passing, [(0, 1), (1, 0), (1, 2)])

    def test_a_parent_is_wished_if_any_child_could_pass_by_it(self):
        two_kinds = (2, 3, 2, ((0, 2), (1, 1)), False)
        self.assertEqual(wished(two_kinds, ((1, 2), ())), ((1, 2), ()))
        self.assertEqual(wished(two_kinds, ((1, 2), (0, 0))), ((1, 2), ()))
        self.assertEqual(wished(two_kinds, ((1, 2), (0, 1))), ((1, 2), (0, 1)))
        self.assertEqual(wished(two_kinds, ((0, 1), (1, 1))), ((-1, 1), (1, 1)))
        self.assertEqual(wished(two_kinds, ((0, -1), (1, 0))), ((-1, -1), ()))

    def test_nothing_is_wished_by_an_empty_test(self):
        empty = (3, 3, 2, (), True)
        for source in all_sources(3, 3, 2):
            self.assertIs(child_passes(empty, source), False)
            self.assertEqual(wished(empty, source), ((-1, -1, -1), ()))

    def test_every_source_of_cases_of_one_parent_or_two(self):
        for case in all_cases():
            if case[0] == 3 or case[4]:
                continue
            values = {value for _, value in case[3]}
            for source in all_sources(*case[:3]):
                parents, child = source
                passes = child != () and (child[0], parents[child[1]]) in set(case[3])
                self.assertIs(child_passes(case, source), passes)
                kept = tuple(state if state in values else -1 for state in parents)
                self.assertEqual(wished(case, source), (kept, child if passes else ()))


class Commits(unittest.TestCase):
    def test_the_examples_of_the_document(self):
        self.assertEqual(
            [commits(SMALL, ((-1,), ())), commits(SMALL, ((0,), (0, 0)))],
            [[(('parent', 0, 0),), (('parent', 0, 1),)],
             [(('child', ()),), (('parent', 0, 1),)]])
        self.assertEqual(
            [commits((1, 1, 1, (), True), ((-1,), ())),
             after_commit(((0,), (0, 0)), (('parent', 0, 1),))],
            [[(('parent', 0, 0),), (('parent', 0, 0), ('child', (0, 0)))], ((1,), (0, 0))])

    def test_the_commits_of_two_parents(self):
        self.assertEqual(
            commits(PAIR, ((0, -1), (0, 0))),
            [(('child', ()),), (('parent', 0, 1),), (('parent', 1, 0),), (('parent', 1, 1),)])
        self.assertEqual(
            commits(PAIR, ((0, 1), (0, 1))),
            [(('child', ()),), (('child', (0, 0)),), (('parent', 0, -1),), (('parent', 0, 1),),
             (('parent', 1, 0),)])

    def test_the_commits_of_three_parents(self):
        case = (3, 1, 2, (), False)
        self.assertEqual(
            commits(case, ((0, -1, 0), (1, 2))),
            [(('child', ()),), (('child', (0, 0)),), (('child', (0, 2)),), (('child', (1, 0)),),
             (('parent', 0, -1),), (('parent', 1, 0),)])

    def test_joint_commits_of_one_parent(self):
        self.assertEqual(
            commits(JOINT, ((0,), (0, 0))),
            [(('child', ()),),
             (('parent', 0, -1), ('child', ())),
             (('parent', 0, 1),),
             (('parent', 0, 1), ('child', ()))])
        self.assertEqual(
            commits(JOINT, ((-1,), ())),
            [(('parent', 0, 0),),
             (('parent', 0, 0), ('child', (0, 0))),
             (('parent', 0, 1),),
             (('parent', 0, 1), ('child', (0, 0)))])

    def test_a_joint_commit_may_move_the_child_away_from_a_parent_that_goes(self):
        case = (2, 1, 1, (), True)
        self.assertEqual(
            commits(case, ((0, 0), (0, 0))),
            [(('child', ()),), (('child', (0, 1)),),
             (('parent', 0, -1), ('child', ())), (('parent', 0, -1), ('child', (0, 1))),
             (('parent', 1, -1),), (('parent', 1, -1), ('child', ()))])

    def test_the_test_of_the_case_does_not_matter(self):
        for joint in (False, True):
            for source in all_sources(2, 2, 1):
                found = [commits((2, 2, 1, test, joint), source) for test in all_tests(2, 1)]
                self.assertEqual(found, [found[0]] * len(found))

    def test_all_commits_of_every_source_ascend_and_lead_where_they_should(self):
        for n, values, kinds, joint in all_shapes():
            case = plain_case(n, values, kinds, joint)
            sources = all_sources(n, values, kinds)
            for source in sources:
                targets = {}
                for target in sources:
                    commit = commit_between(source, target, joint)
                    if commit is not None:
                        targets[commit] = target
                found = commits(case, source)
                self.assertEqual(found, sorted(targets))
                for commit in found:
                    self.assertEqual(after_commit(source, commit), targets[commit])

    def test_after_commit_changes_no_other_part(self):
        source = ((0, 1, 2), (1, 1))
        self.assertEqual(after_commit(source, (('parent', 0, -1),)), ((-1, 1, 2), (1, 1)))
        self.assertEqual(after_commit(source, (('parent', 2, 0),)), ((0, 1, 0), (1, 1)))
        self.assertEqual(after_commit(source, (('child', (0, 2)),)), ((0, 1, 2), (0, 2)))
        self.assertEqual(after_commit(source, (('parent', 1, -1), ('child', ()))), ((0, -1, 2), ()))

    def test_the_answers_are_new_lists_of_tuples(self):
        source = ((0, 1), (0, 1))
        first = commits(PAIR, source)
        second = commits(PAIR, source)
        self.assertIs(type(first), list)
        self.assertIsNot(first, second)
        first.clear()
        self.assertEqual(len(second), 5)
        self.assertEqual(commits(PAIR, source), second)

    def test_the_answers_are_tuples_throughout(self):
        for source in all_sources(3, 3, 2):
            kept = wished(WIDE, source)
            self.assertEqual([type(part) for part in (kept,) + kept], [tuple] * 3)
            for commit in commits(WIDE, source):
                after = after_commit(source, commit)
                self.assertEqual([type(part) for part in (after,) + after], [tuple] * 3)
                self.assertEqual({type(part) for part in (commit,) + commit}, {tuple})

    def test_equal_arguments_give_equal_answers(self):
        for source in all_sources(2, 2, 2):
            case = (2, 2, 2, ((0, 1), (1, 0)), True)
            again = copy.deepcopy(source)
            self.assertEqual(commits(case, source), commits(tuple(list(case)), again))
            self.assertEqual(source, again)


if __name__ == '__main__':
    unittest.main()
