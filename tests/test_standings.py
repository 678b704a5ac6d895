"""Tests of somerows.standings: points [2] and [9]."""

import copy
import itertools
import unittest

import model
from samples import BARE, JOINT, PAIR, SAFE, SMALL, STRANGE_VALUES, all_copies, all_shapes
from samples import all_sources, every_plan, listed, plan_with, with_part
from somerows.standings import after, beginning, is_standing, steps
from walks import walk

KINDS = (2, 2, 2, ((0, 1), (1, 0)), False)
WALKED = [
    SMALL, JOINT, PAIR, KINDS,
    (1, 2, 2, ((0, 1), (1, 0)), True), (2, 2, 1, ((0, 0), (0, 1)), True),
    (3, 1, 1, ((0, 0),), False), (3, 3, 2, ((0, 0), (0, 2), (1, 1)), True),
]

ABSENT = ((-1,), ())
UP, DOWN = ('commit', (('parent', 0, 1),)), ('commit', (('parent', 0, 0),))
IN, OUT = ('commit', (('child', (0, 0)),)), ('commit', (('child', ()),))
FIRST, SECOND, ANEW = ('deliver', 0), ('deliver', 1), ('anew',)


def after_all(case, plan, standing, path):
    for step in path:
        standing = after(case, plan, standing, step)
    return standing


class Examples(unittest.TestCase):
    def test_the_examples_of_the_document(self):
        start = beginning(SMALL, BARE)
        self.assertEqual(
            [start, steps(SMALL, BARE, start)],
            [(((-1,), ()), ((-1,), ()), ((), ()), 0),
             [('commit', (('parent', 0, 0),)), ('commit', (('parent', 0, 1),))]])
        self.assertEqual(
            after(SMALL, BARE, start, ('commit', (('parent', 0, 1),))),
            (((1,), ()), ((-1,), ()), (((('parent', 0, 1, ()),),), ()), 0))


class Beginning(unittest.TestCase):
    def test_one_lane_and_two_and_one_to_three_parents(self):
        one, two, three = SMALL, PAIR, (3, 1, 1, (), False)
        self.assertEqual(beginning(one, SAFE), (((-1,), ()), ((-1,), ()), ((),), 0))
        self.assertEqual(beginning(one, BARE), (((-1,), ()), ((-1,), ()), ((), ()), 0))
        self.assertEqual(beginning(two, SAFE), (((-1, -1), ()), ((-1, -1), ()), ((),), 0))
        self.assertEqual(beginning(three, BARE),
                         (((-1, -1, -1), ()), ((-1, -1, -1), ()), ((), ()), 0))

    def test_nothing_else_of_the_case_and_the_plan_matters(self):
        for n, values, kinds, joint in all_shapes():
            for plan in (SAFE, BARE, plan_with(SAFE, late=2, anew='kept')):
                absent = ((-1,) * n, ())
                self.assertEqual(beginning((n, values, kinds, ((0, 0),), joint), plan),
                                 (absent, absent, ((),) * plan[0], 0))


class Steps(unittest.TestCase):
    def test_a_full_lane_takes_no_commit(self):
        one = after(SMALL, SAFE, beginning(SMALL, SAFE), UP)
        self.assertEqual(steps(SMALL, SAFE, one), [FIRST])
        # With two lanes the child's is free.
        two = after(SMALL, BARE, beginning(SMALL, BARE), UP)
        self.assertEqual(steps(SMALL, BARE, two), [IN, FIRST])
        self.assertEqual(steps(SMALL, BARE, after(SMALL, BARE, two, IN)), [FIRST, SECOND])

    def test_late_two_takes_two(self):
        late = plan_with(SAFE, late=2)
        one = after(SMALL, late, beginning(SMALL, late), UP)
        self.assertEqual(steps(SMALL, late, one),
                         [IN, ('commit', (('parent', 0, -1),)), DOWN, FIRST])
        two = after(SMALL, late, one, IN)
        self.assertEqual(two[2], (((('parent', 0, 1, ()),), (('child', (0, 0), 1),)),))
        self.assertEqual(steps(SMALL, late, two), [FIRST])

    def test_a_message_without_entries_takes_a_place(self):
        deaf = plan_with(SAFE, children='now', parents='now')
        standing = after(SMALL, deaf, beginning(SMALL, deaf), DOWN)
        self.assertEqual(standing[2], (((),),))
        self.assertEqual(steps(SMALL, deaf, standing), [FIRST])
        late = plan_with(deaf, late=2)
        standing = after_all(SMALL, late, beginning(SMALL, late), [DOWN, IN])
        self.assertEqual(standing[2], (((), ()),))
        self.assertEqual(steps(SMALL, late, standing), [FIRST])
        self.assertEqual(after(SMALL, late, standing, FIRST)[1:3], (ABSENT, (((),),)))

    def test_a_commit_of_both_needs_room_in_both_lanes(self):
        plan = plan_with(BARE, late=1)
        both = [('commit', (('parent', 0, state), ('child', (0, 0)))) for state in (0, 1)]
        start = beginning(JOINT, plan)
        self.assertEqual([step for step in steps(JOINT, plan, start) if step in both], both)
        after_parent = after(JOINT, plan, start, UP)
        self.assertEqual(steps(JOINT, plan, after_parent), [IN, FIRST])
        after_child = after_all(JOINT, plan, after_parent, [IN, FIRST])
        self.assertEqual(after_child[2], ((), ((('child', (0, 0), -1),),)))
        # The parent cannot go now, as its child would have to go with it.
        self.assertEqual(steps(JOINT, plan, after_child), [DOWN, SECOND])

    def test_with_one_lane_a_commit_of_both_takes_one_place(self):
        late = plan_with(SAFE, late=2)
        both = ('commit', (('parent', 0, 1), ('child', (0, 0))))
        standing = after(JOINT, late, beginning(JOINT, late), both)
        self.assertEqual(standing[2], (((('parent', 0, 1, (0,)), ('child', (0, 0), 1)),),))
        self.assertEqual([step[0] for step in steps(JOINT, late, standing)],
                         ['commit'] * 4 + ['deliver'])

    def test_beginning_anew_is_a_step_unless_never(self):
        for anew in ('cut', 'kept'):
            for plan in (plan_with(SAFE, anew=anew), plan_with(BARE, anew=anew)):
                start = beginning(SMALL, plan)
                self.assertEqual(steps(SMALL, plan, start), [ANEW, DOWN, UP])
                self.assertEqual(steps(SMALL, plan, after(SMALL, plan, start, UP))[0], ANEW)
        self.assertEqual(steps(SMALL, SAFE, beginning(SMALL, SAFE)), [DOWN, UP])

    def test_only_lanes_that_are_not_empty_deliver(self):
        late = plan_with(BARE, late=2)
        standing = after_all(SMALL, late, beginning(SMALL, late), [UP, IN, FIRST])
        self.assertNotIn(FIRST, steps(SMALL, late, standing))
        self.assertIn(SECOND, steps(SMALL, late, standing))

    def test_a_new_list_each_time(self):
        start = beginning(PAIR, SAFE)
        first, second = steps(PAIR, SAFE, start), steps(PAIR, SAFE, start)
        self.assertIs(type(first), list)
        self.assertIsNot(first, second)
        first.clear()
        self.assertEqual(len(second), 4)
        self.assertEqual(steps(PAIR, SAFE, start), second)


class After(unittest.TestCase):
    def test_messages_come_behind_those_of_their_lanes(self):
        late = plan_with(BARE, late=2)
        standing = after_all(SMALL, late, beginning(SMALL, late), [DOWN, UP, IN])
        self.assertEqual(standing[:3],
                         (((1,), (0, 0)), ABSENT,
                          (((('parent', 0, 0, ()),), (('parent', 0, 1, ()),)),
                           ((('child', (0, 0), -1),),))))

    def test_the_oldest_message_is_delivered(self):
        late = plan_with(SAFE, late=2)
        standing = after_all(SMALL, late, beginning(SMALL, late), [UP, DOWN])
        one = after(SMALL, late, standing, FIRST)
        self.assertEqual(one[1:3], (((1,), ()), (((('parent', 0, 0, ()),),),)))
        self.assertEqual(after(SMALL, late, one, FIRST)[1:3], (ABSENT, ((),)))

    def test_a_delivery_leaves_the_other_lane(self):
        late = plan_with(BARE, late=2)
        standing = after_all(SMALL, late, beginning(SMALL, late), [UP, IN])
        parent, child = (('parent', 0, 1, ()),), (('child', (0, 0), -1),)
        self.assertEqual(after(SMALL, late, standing, FIRST)[1:3], (((1,), ()), ((), (child,))))
        self.assertEqual(after(SMALL, late, standing, SECOND)[1:3], (ABSENT, ((parent,), ())))

    def test_beginning_anew_cut_and_kept(self):
        for base in (SAFE, BARE):
            for anew in ('cut', 'kept'):
                plan = plan_with(base, late=2, anew=anew)
                standing = after_all(SMALL, plan, beginning(SMALL, plan), [UP, IN])
                later = after(SMALL, plan, standing, ANEW)
                self.assertEqual(later[:2], (((1,), (0, 0)), ((1,), (0, 0))))
                self.assertEqual(later[2], ((),) * plan[0] if anew == 'cut' else standing[2])

    def test_beginning_anew_gives_what_is_wished_now(self):
        plan = plan_with(SAFE, anew='kept')
        for source, wanted in ((((0,), (0, 0)), ABSENT), (((1,), ()), ((1,), ())),
                               (((1,), (0, 0)), ((1,), (0, 0))), (ABSENT, ABSENT)):
            for held in all_copies(SMALL):
                self.assertEqual(after(SMALL, plan, (source, held, ((),), 0), ANEW)[1], wanted)


class Mark(unittest.TestCase):
    # Marks 0, 1 and 2 before become these, by whether the copy had the child
    # and has it, and whether the child passed before and passes after.
    BY_COMMIT = {
        # (has it, passed, passes)
        (True, True, True): (0, 1, 0),
        (True, True, False): (0, 0, 0),
        (True, False, True): (0, 1, 0),
        (True, False, False): (0, 0, 0),
        (False, True, True): (0, 2, 0),
        (False, True, False): (0, 0, 0),
        (False, False, True): (0, 0, 0),
        (False, False, False): (0, 0, 0),
    }
    BY_COPY = {
        # (had it, has it, passes)
        (True, True, True): (0, 1, 0),
        (True, True, False): (0, 0, 0),
        (False, True, True): (1, 1, 1),
        (False, True, False): (0, 0, 0),
        (True, False, True): (0, 2, 0),
        (True, False, False): (0, 0, 0),
        (False, False, True): (0, 2, 0),
        (False, False, False): (0, 0, 0),
    }

    def test_a_commit(self):
        # The child's parent is parent 0; the other one does not matter to it.
        other = ('commit', (('parent', 1, 1),))
        commits = {(True, True): (1, other), (False, False): (0, other),
                   (True, False): (1, DOWN), (False, True): (0, UP)}
        for (has, passed, passes), marks in self.BY_COMMIT.items():
            value, commit = commits[passed, passes]
            held = ((-1, -1), (0, 0) if has else ())
            for mark in (0, 1, 2):
                standing = (((value, 0), (0, 0)), held, ((),), mark)
                self.assertEqual(after(PAIR, SAFE, standing, commit)[3], marks[mark],
                                 (has, passed, passes, mark))

    def test_a_delivery(self):
        for (had, has, passes), marks in self.BY_COPY.items():
            source = ((1 if passes else 0,), (0, 0))
            held = ((-1,), (0, 0) if had else ())
            entry = ('child', (0, 0), 1) if has else ('child', (), -1)
            for mark in (0, 1, 2):
                standing = (source, held, (((entry,),),), mark)
                self.assertEqual(after(SMALL, SAFE, standing, FIRST)[3], marks[mark],
                                 (had, has, passes, mark))

    def test_beginning_anew(self):
        for (had, has, passes), marks in self.BY_COPY.items():
            if has != passes:
                continue
            for anew in ('cut', 'kept'):
                plan = plan_with(SAFE, anew=anew)
                source = ((1 if passes else 0,), (0, 0))
                held = ((-1,), (0, 0) if had else ())
                for mark in (0, 1, 2):
                    standing = (source, held, ((),), mark)
                    self.assertEqual(after(SMALL, plan, standing, ANEW)[3], marks[mark])

    def test_a_child_that_is_absent_in_the_source_does_not_pass(self):
        for mark in (0, 1, 2):
            for held in (((1,), (0, 0)), ((1,), ())):
                standing = (((1,), ()), held, (((),),), mark)
                self.assertEqual(after(SMALL, SAFE, standing, FIRST)[3], 0)
                standing = (((1,), (0, 0)), held, ((),), mark)
                self.assertEqual(after(SMALL, SAFE, standing, OUT)[3], 0)

    def test_the_copy_has_the_child_whatever_its_state_there(self):
        # In the copy it is of another kind and with another parent than in the source.
        case = (2, 2, 2, ((0, 1), (1, 1)), False)
        standing = (((1, 1), (0, 0)), ((-1, -1), (1, 1)), (((),),), 1)
        self.assertEqual(after(case, SAFE, standing, FIRST)[3], 1)


class AsTheModel(unittest.TestCase):
    def assert_as_the_model(self, case, plan, standing):
        found = steps(case, plan, standing)
        self.assertEqual(found, model.steps(case, plan, standing))
        self.assertEqual(found, sorted(found))
        for step in found:
            self.assertEqual(after(case, plan, standing, step),
                             model.after(case, plan, standing, step),
                             (case, plan, standing, step))

    def test_all_steps_along_walks(self):
        plans = every_plan()
        for number, case in enumerate(WALKED):
            # Far apart in the list, so that each part of a plan takes each value.
            for plan in plans[number::61]:
                for standing in walk(case, plan, 12, number)[0]:
                    self.assert_as_the_model(case, plan, standing)

    def test_every_plan_in_a_small_case(self):
        for plan in every_plan():
            for standing in walk(SMALL, plan, 10, 5)[0] + walk(JOINT, plan, 10, 6)[0]:
                self.assert_as_the_model(SMALL if plan[0] == 1 else JOINT, plan, standing)

    def test_tuples_throughout_and_no_argument_changes(self):
        for case in WALKED:
            for plan in every_plan()[::83]:
                standings, taken = walk(case, plan, 10, 7)
                for standing, step in zip(standings, taken):
                    arguments = [case, plan, standing, step]
                    kept = copy.deepcopy(arguments)
                    later = after(*arguments)
                    steps(*arguments[:3])
                    is_standing(*arguments[:3])
                    self.assertEqual(arguments, kept)
                    self.assertEqual(after(*kept), later)
                    self.assertEqual([listed(part) for part in later[:3]],
                                     [listed(part) for part in model.after(*kept)[:3]])
                    self.assertIs(type(later[3]), int)
                    self.assertIs(is_standing(case, plan, later), True)


class IsStanding(unittest.TestCase):
    def assert_standing(self, case, plan, value):
        self.assertIs(is_standing(case, plan, value), True, (case, plan, value))

    def assert_no_standing(self, case, plan, value):
        self.assertIs(is_standing(case, plan, value), False, (case, plan, value))

    def test_standings_that_no_steps_lead_to(self):
        # Any source, any copy and any mark go together.
        for source, held, mark in itertools.product(all_sources(1, 2, 1), all_copies(SMALL),
                                                    (0, 1, 2)):
            self.assert_standing(SMALL, SAFE, (source, held, ((),), mark))
            self.assert_standing(SMALL, BARE, (source, held, ((), ()), mark))
        # The message is not one of a commit that leads to this source.
        self.assert_standing(SMALL, SAFE, (ABSENT, ABSENT, (((('parent', 0, 1, (0,)),),),), 2))

    def test_messages_that_no_commit_can_give(self):
        kinds = (1, 2, 2, ((0, 1), (1, 0)), False)
        right = [(('parent', 0, 1, ()),), (('parent', 0, 1, (0,)),), (('parent', 0, 0, (1,)),),
                 (('parent', 0, -1, ()),), (('child', (), -1),), (('child', (1, 0), 0),)]
        wrong = [
            (), (('parent', 0, -1, (0,)),), (('child', (), 0),), (('child', (1, 0), -1),),
            (('parent', 0, 1, ()), ('child', (0, 0), 1)),
            (('child', (0, 0), 1), ('parent', 0, 1, ())),
            (('child', (0, 0), 1), ('child', (0, 0), 1)),
            (('parent', 0, 2, ()),), (('parent', 0, -2, ()),), (('parent', 1, 1, ()),),
            (('parent', -1, 1, ()),), (('parent', 0, 1, (2,)),), (('parent', 0, 1, (-1,)),),
            (('parent', 0, 1, (0, 1)),), (('parent', 0, 1),), (('parent', 0, 1, (), ()),),
            (('child', (2, 0), 1),), (('child', (0, 1), 1),), (('child', (0, 0), 2),),
            (('child', (0, 0)),), (('child', (0, 0), 1, ()),), (('child', 0, 1, ()),),
            (('parent', (0, 0), 1),), (('Parent', 0, 1, ()),), (('', (0, 0), 1),),
            ('parent', 0, 1, ()), ('child', (0, 0), 1), (None,), None, 0, '', 'parent',
        ]
        for message in right:
            self.assert_standing(kinds, SAFE, (ABSENT, ABSENT, ((message,),), 0))
        for message in wrong:
            self.assert_no_standing(kinds, SAFE, (ABSENT, ABSENT, ((message,),), 0))
            self.assert_no_standing(kinds, plan_with(SAFE, late=2),
                                    (ABSENT, ABSENT, ((right[0], message),), 0))

    def test_messages_that_other_plans_give(self):
        told, untold = ('parent', 0, 1, (0,)), ('parent', 0, 1, ())
        valued, bare = ('child', (0, 0), 1), ('child', (0, 0), -1)
        failing, gone = ('child', (0, 0), 0), ('child', (), -1)
        off = plan_with(SAFE, tells_value=False, tells_children=False)
        for plan, right, wrong in (
                (SAFE, [told, untold, valued, failing, gone], [bare]),
                (off, [untold, bare, gone], [told, valued, failing]),
                (plan_with(SAFE, children='either'), [valued, gone], [failing]),
                (plan_with(SAFE, children='now'), [valued], [failing, gone]),
                (plan_with(SAFE, parents='either'), [told, ('parent', 0, 0, ())], []),
                (plan_with(SAFE, parents='now'), [told, untold], [('parent', 0, 0, ())])):
            for entry in right:
                self.assert_standing(SMALL, plan, (ABSENT, ABSENT, (((entry,),),), 0))
            for entry in wrong:
                self.assert_no_standing(SMALL, plan, (ABSENT, ABSENT, (((entry,),),), 0))
        # A change is not sent only if the plan does not send all.
        self.assert_no_standing(SMALL, SAFE, (ABSENT, ABSENT, (((),),), 0))
        for part in ('children', 'parents'):
            plan = plan_with(SAFE, **{part: 'either'})
            self.assert_standing(SMALL, plan, (ABSENT, ABSENT, (((),),), 0))

    def test_messages_in_the_other_lane(self):
        parent, child = (('parent', 0, 1, ()),), (('child', (0, 0), -1),)
        self.assert_standing(SMALL, BARE, (ABSENT, ABSENT, ((parent,), (child,)), 0))
        self.assert_no_standing(SMALL, BARE, (ABSENT, ABSENT, ((child,), ()), 0))
        self.assert_no_standing(SMALL, BARE, (ABSENT, ABSENT, ((), (parent,)), 0))
        self.assert_no_standing(JOINT, BARE, (ABSENT, ABSENT, ((parent + child,), ()), 0))
        deaf = plan_with(BARE, children='now')
        self.assert_standing(SMALL, deaf, (ABSENT, ABSENT, ((), ((),)), 0))
        self.assert_no_standing(SMALL, deaf, (ABSENT, ABSENT, (((),), ()), 0))

    def test_messages_of_two_entries_only_in_joint_cases(self):
        both = (('parent', 0, 1, (0,)), ('child', (0, 0), 1))
        self.assert_standing(JOINT, SAFE, (ABSENT, ABSENT, ((both,),), 0))
        self.assert_no_standing(SMALL, SAFE, (ABSENT, ABSENT, ((both,),), 0))
        self.assert_no_standing(JOINT, SAFE, (ABSENT, ABSENT, ((both[::-1],),), 0))
        # The told kind and the value are those of one source.
        for wrong in ((('parent', 0, 1, ()), both[1]), (both[0], ('child', (0, 0), 0)),
                      (both[0], ('child', (), -1)), both + both[:1], both[:1] * 2):
            self.assert_no_standing(JOINT, SAFE, (ABSENT, ABSENT, ((wrong,),), 0))

    def test_too_many_messages(self):
        message = (('parent', 0, 1, ()),)
        for lanes in (1, 2):
            for late in (1, 2):
                plan = plan_with(SAFE, lanes=lanes, late=late)
                rest = ((),) * (lanes - 1)
                for many in range(5):
                    value = (ABSENT, ABSENT, ((message,) * many,) + rest, 0)
                    self.assertIs(is_standing(SMALL, plan, value), many <= late)

    def test_other_numbers_of_lanes(self):
        for lanes in ((), ((), ()), ((), (), ())):
            self.assert_no_standing(SMALL, SAFE, (ABSENT, ABSENT, lanes, 0))
        for lanes in ((), ((),), ((), (), ())):
            self.assert_no_standing(SMALL, BARE, (ABSENT, ABSENT, lanes, 0))

    def test_wrong_marks(self):
        for mark in (0, 1, 2):
            self.assert_standing(SMALL, SAFE, (ABSENT, ABSENT, ((),), mark))
        for mark in (-1, 3, 10 ** 59, True, False, None, '0', (), (0,)):
            self.assert_no_standing(SMALL, SAFE, (ABSENT, ABSENT, ((),), mark))

    def test_wrong_sources_and_copies(self):
        # A child that refers to an absent parent is right in the copy alone, a
        # value that does not pass in the source alone.
        dangling, failing = ((-1,), (0, 0)), ((0,), ())
        self.assert_standing(SMALL, SAFE, (failing, dangling, ((),), 0))
        self.assert_no_standing(SMALL, SAFE, (dangling, ABSENT, ((),), 0))
        self.assert_no_standing(SMALL, SAFE, (ABSENT, failing, ((),), 0))
        for wrong in (((-1, -1), ()), ((2,), ()), ((True,), ()), ([1], ()), ((1,), [0, 0]),
                      ((1,), (0, False)), ((1,),), None, (), 0):
            self.assert_no_standing(SMALL, SAFE, (wrong, ABSENT, ((),), 0))
            self.assert_no_standing(SMALL, SAFE, (ABSENT, wrong, ((),), 0))

    def test_a_none_in_a_lane(self):
        self.assert_no_standing(SMALL, BARE, (ABSENT, ABSENT, ((None,), ()), 0))
        self.assert_no_standing(SMALL, BARE, (ABSENT, ABSENT, (None, ()), 0))
        self.assert_no_standing(SMALL, BARE, (ABSENT, ABSENT, ((), (None,)), 0))
        late = plan_with(BARE, late=2)
        message = (('parent', 0, 1, ()),)
        self.assert_no_standing(SMALL, late, (ABSENT, ABSENT, ((message, None), ()), 0))

    def test_a_list_is_no_tuple_and_a_bool_no_integer(self):
        def changed(part):
            """Yield the part with each tuple as a list and each integer as a bool in it."""
            if isinstance(part, tuple):
                yield list(part)
                for at, inner in enumerate(part):
                    for other in changed(inner):
                        yield with_part(part, at, other)
            elif isinstance(part, int):
                yield bool(part)

        source, held = ((1,), (0, 0)), ((1,), (0, 0))
        for entry, many in ((('parent', 0, 1, (0,)), 22), (('child', (0, 0), 1), 22)):
            value = (source, held, (((entry,),),), 1)
            self.assert_standing(SMALL, SAFE, value)
            others = list(changed(value))
            self.assertEqual(len(others), many)
            for other in others:
                self.assert_no_standing(SMALL, SAFE, other)

    def test_other_values(self):
        right = (ABSENT, ABSENT, ((),), 0)
        self.assert_standing(SMALL, SAFE, right)
        others = [True, 0, 'standing', [right], {right: right}, (right,), right + (0,), right[:3],
                  right[1:], right[::-1], list(right), dict(enumerate(right))]
        for value in STRANGE_VALUES + others:
            self.assert_no_standing(SMALL, SAFE, value)
            self.assert_no_standing(SMALL, BARE, value)

    def test_parts_of_any_other_kind(self):
        message = (('parent', 0, 1, (0,)),)
        right = (((1,), (0, 0)), ((1,), (0, 0)), ((message,),), 1)
        for strange in STRANGE_VALUES:
            for at in range(4):
                self.assert_no_standing(SMALL, SAFE, with_part(right, at, strange))
            for lanes in ((strange,), ((strange,),), (((strange,),),)):
                # One of the strange values is no message, but a lane that is empty.
                if lanes != ((),):
                    self.assert_no_standing(SMALL, SAFE, with_part(right, 2, lanes))
            for entry in (message[0], ('child', (0, 0), 1)):
                for at in range(len(entry)):
                    # One of the strange values is what is told here anyway.
                    if strange != entry[at]:
                        other = with_part(entry, at, strange)
                        value = with_part(right, 2, (((other,),),))
                        self.assert_no_standing(SMALL, SAFE, value)

    def test_all_messages_that_are_possible_and_no_others(self):
        for case in (SMALL, JOINT, (1, 2, 2, ((0, 1), (1, 0)), True), (2, 1, 1, ((0, 0),), True)):
            n, values, kinds = case[:3]
            parents = [('parent', p, state, told) for p in range(n) for state in range(-1, values)
                       for told in [()] + [(kind,) for kind in range(kinds)]]
            children = [('child', state, value) for value in range(-1, values)
                        for state in [()] + list(itertools.product(range(kinds), range(n)))]
            messages = ([()] + [(entry,) for entry in parents + children]
                        + list(itertools.product(parents, children)))
            for plan in every_plan(late=(1,), anew=('never',))[::5]:
                possible = model.possible_messages(case, plan)
                absent = beginning(case, plan)
                for lane in range(plan[0]):
                    for message in messages:
                        value = with_part(absent, 2, with_part(absent[2], lane, (message,)))
                        self.assertIs(is_standing(case, plan, value), message in possible[lane])

    def test_the_value_is_not_changed(self):
        for value in STRANGE_VALUES + [listed((ABSENT, ABSENT, ((),), 0)),
                                       (ABSENT, ABSENT, ([[]],), 0), ([[-1], []], {}, [], 0)]:
            before = copy.deepcopy(value)
            is_standing(SMALL, SAFE, value)
            self.assertEqual(value, before)


if __name__ == '__main__':
    unittest.main()
