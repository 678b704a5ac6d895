"""Tests of somerows.mendings: points [2] and [16]."""

import copy
import itertools
import random
import unittest

import model
from samples import BARE, JOINT, PAIR, SAFE, SMALL, STRANGE_VALUES
from samples import differing, listed, other_kinds, plan_with, searched, with_part
from somerows.mendings import find_hopeless, find_mending, is_hopeless, is_mending, outcomes, settles
from somerows.standings import after, beginning, is_standing, steps
from timing import soon
from walks import walk

ABSENT = ((-1,), ())
UP, DOWN = ('commit', (('parent', 0, 1),)), ('commit', (('parent', 0, 0),))
IN, OUT = ('commit', (('child', (0, 0)),)), ('commit', (('child', ()),))
FIRST, SECOND, ANEW = ('deliver', 0), ('deliver', 1), ('anew',)
LATE = (((1,), (0, 0)), ((-1,), ()),
        (((('parent', 0, 1, ()),),), ((('child', (0, 0), -1),),)), 0)
LOST = (((1,), (0, 0)), ((1,), ()), ((), ()), 0)
DEAF = (1, 1, 'now', 'now', False, False, False, 'never')
EXTRA = (((1,), ()), ((1,), (0, 0)), ((),), 0)

# The case and some plans of the greatest hopeless sets and the longest searches.
LARGE = (1, 2, 2, ((0, 0), (1, 1)), True)
LARGE_PLANS = [(2, 2, children, parents, tells, tells, again, 'kept')
               for children, parents in itertools.product(('all', 'either', 'now'), repeat=2)
               for tells, again in ((True, False), (False, True))]


def any_standing(case, plan, chance):
    """Return a standing of any source, copy, messages and mark."""
    lanes = tuple(tuple(chance.choice(sorted(found)) for _ in range(chance.randint(0, plan[1])))
                  if found else () for found in model.possible_messages(case, plan))
    return (chance.choice(model.every_source(case)), chance.choice(model.every_copy(case)), lanes,
            chance.choice((0, 1, 2)))


def some_standings():
    """Return triples of a case, a plan and a standing, with and without a path to it."""
    found = []
    for number, (case, plan) in enumerate(searched()):
        chance = random.Random(number)
        standings, _ = walk(case, plan, 12, number)
        found += [(case, plan, standings[-1]), (case, plan, any_standing(case, plan, chance))]
    return found


class Examples(unittest.TestCase):
    def test_the_examples_of_the_document(self):
        self.assertEqual([outcomes(SMALL, BARE, LATE), settles(SMALL, BARE, LATE),
                          settles(SMALL, BARE, beginning(SMALL, BARE))],
                         [[((1,), ()), ((1,), (0, 0))], False, True])
        self.assertEqual([outcomes(SMALL, BARE, LOST), len(find_mending(SMALL, BARE, LOST)),
                          find_hopeless(SMALL, BARE, LOST),
                          find_mending(SMALL, BARE, beginning(SMALL, BARE))],
                         [[((1,), ())], 4, None, ()])
        self.assertIs(is_mending(SMALL, BARE, LOST,
                                 (('commit', (('child', ()),)), ('deliver', 1),
                                  ('commit', (('child', (0, 0)),)), ('deliver', 1))), True)
        self.assertEqual([find_mending(SMALL, DEAF, (((1,), ()), ((1,), (0, 0)), ((),), 0)),
                          is_hopeless(SMALL, DEAF, (((1,), ()), ((1,), (0, 0)), ((),), 0), ())],
                         [None, False])


class Outcomes(unittest.TestCase):
    def test_against_every_order_of_deliveries(self):
        many = set()
        for case, plan, standing in some_standings():
            found = outcomes(case, plan, standing)
            many.add(len(found))
            self.assertIs(type(found), list)
            self.assertEqual(found, model.outcomes(case, plan, standing))
            right = model.state_of(case, model.wished_rows(case, standing[0]))
            self.assertIs(settles(case, plan, standing), found == [right])
        self.assertTrue({1, 2} <= many, many)

    def test_full_lanes(self):
        chance = random.Random(5)
        for case in (SMALL, JOINT, (1, 2, 2, ((0, 1), (1, 0)), True)):
            for plan in (plan_with(BARE, late=2), plan_with(BARE, late=2, looks_again=True),
                         plan_with(BARE, late=2, tells_children=True, children='either')):
                for _ in range(40):
                    standing = any_standing(case, plan, chance)
                    found = outcomes(case, plan, standing)
                    self.assertEqual(found, model.outcomes(case, plan, standing))

    def test_empty_lanes(self):
        for held in model.every_copy(SMALL):
            for mark in (0, 1, 2):
                standing = (((1,), (0, 0)), held, ((), ()), mark)
                self.assertEqual(outcomes(SMALL, BARE, standing), [held])
                self.assertIs(settles(SMALL, BARE, standing), held == ((1,), (0, 0)))

    def test_settling(self):
        up, child = (('parent', 0, 1, ()),), (('child', (0, 0), 1),)
        told = plan_with(BARE, tells_value=True)
        standing = (((1,), (0, 0)), ABSENT, ((up,), (child,)), 0)
        self.assertIs(settles(SMALL, told, standing), True)
        # Its only outcome is not what is wished.
        self.assertIs(settles(SMALL, told, with_part(standing, 2, ((up,), ()))), False)
        self.assertEqual(outcomes(SMALL, told, with_part(standing, 2, ((up,), ()))), [((1,), ())])
        # What is wished is one of its outcomes, but not the only one.
        self.assertIn(((1,), (0, 0)), outcomes(SMALL, BARE, LATE))
        self.assertIs(settles(SMALL, BARE, LATE), False)

    def test_beginning_anew_is_no_delivery(self):
        for anew in ('cut', 'kept'):
            plan = plan_with(BARE, anew=anew)
            self.assertEqual(outcomes(SMALL, plan, LOST), [((1,), ())])
            self.assertIs(settles(SMALL, plan, LOST), False)

    def test_a_new_list_each_time(self):
        found = outcomes(SMALL, BARE, LATE)
        found.clear()
        self.assertEqual(len(outcomes(SMALL, BARE, LATE)), 2)


class Finding(unittest.TestCase):
    def test_exactly_one_of_both(self):
        found = []
        for case, plan, standing in some_standings():
            distances = model.mending_distances(case, plan, standing)
            fewest = model.fewest_to_mend(case, standing, distances)
            mending = find_mending(case, plan, standing)
            hopeless = find_hopeless(case, plan, standing)
            found.append(fewest)
            if fewest is None:
                self.assertIsNone(mending)
                self.assertIs(type(hopeless), tuple)
                # It has just the standings that commits and deliveries lead to.
                self.assertEqual(hopeless, tuple(sorted(distances)))
                self.assertIs(is_hopeless(case, plan, standing, hopeless), True)
            else:
                self.assertIsNone(hopeless)
                self.assertIs(type(mending), tuple)
                self.assertEqual(len(mending), fewest)
                self.assertIs(model.holds_as_mending(case, plan, standing, mending), True)
                self.assertIs(is_mending(case, plan, standing, mending), True)
        self.assertTrue({None, 0, 1, 2, 4} <= set(found), set(found))
        self.assertGreater(found.count(None), 15)

    def test_a_mending_step_by_step(self):
        for case, plan, standing in some_standings()[::2]:
            mending = find_mending(case, plan, standing)
            if mending is None:
                continue
            later = standing
            for step in mending:
                self.assertIn(step[0], ('commit', 'deliver'))
                self.assertIn(step, steps(case, plan, later))
                later = after(case, plan, later, step)
            self.assertEqual(later[0], standing[0])
            self.assertFalse(any(later[2]))
            self.assertEqual(later[1], model.state_of(case, model.wished_rows(case, later[0])))

    def test_a_hopeless_set_step_by_step(self):
        for case, plan, standing in some_standings():
            hopeless = find_hopeless(case, plan, standing)
            if hopeless is None or len(hopeless) > 150:
                continue
            known = dict.fromkeys(hopeless)
            self.assertIn(standing, known)
            for later in hopeless:
                self.assertIs(is_standing(case, plan, later), True)
                for step in steps(case, plan, later):
                    if step != ANEW:
                        self.assertIn(after(case, plan, later, step), known)

    def test_a_standing_that_is_right(self):
        for case, plan in searched()[::5]:
            self.assertEqual(find_mending(case, plan, beginning(case, plan)), ())
            self.assertIsNone(find_hopeless(case, plan, beginning(case, plan)))
        # Right but for one thing: what is under way, or the copy.
        self.assertEqual(find_mending(SMALL, SAFE, (ABSENT, ABSENT, ((),), 2)), ())
        waiting = (ABSENT, ABSENT, (((('parent', 0, -1, ()),),),), 0)
        self.assertEqual(find_mending(SMALL, SAFE, waiting), (FIRST,))

    def test_the_same_source_as_at_first(self):
        # A right standing with another source is near, and mends nothing.
        standing = (((0,), ()), ((1,), ()), ((),), 0)
        plan = plan_with(SAFE, parents='now')
        self.assertIs(is_mending(SMALL, plan, standing, (UP, FIRST)), False)
        self.assertIsNone(find_mending(SMALL, plan, standing))
        # With all sent it takes a change and the change back.
        self.assertEqual(len(find_mending(SMALL, SAFE, standing)), 4)

    def test_beginning_anew_mends_nothing(self):
        for anew in ('cut', 'kept'):
            plan = plan_with(DEAF, anew=anew)
            self.assertIsNone(find_mending(SMALL, plan, EXTRA))
            self.assertEqual(find_hopeless(SMALL, plan, EXTRA), find_hopeless(SMALL, DEAF, EXTRA))
            self.assertIs(is_mending(SMALL, plan, EXTRA, (ANEW,)), False)
            self.assertIn(ANEW, steps(SMALL, plan, EXTRA))

    def test_equal_arguments_give_equal_results_and_do_not_change(self):
        for arguments in ([SMALL, DEAF, EXTRA], [SMALL, BARE, LOST], [SMALL, BARE, LATE]):
            kept = copy.deepcopy(arguments)
            functions = find_mending, find_hopeless, outcomes, settles
            found = [function(*arguments) for function in functions]
            self.assertEqual(arguments, kept)
            self.assertEqual(found, [function(*kept) for function in functions])


class IsMending(unittest.TestCase):
    def setUp(self):
        anew, late = plan_with(BARE, anew='kept'), plan_with(SAFE, late=2)
        down, gone = (('parent', 0, 0, ()),), (('child', (), -1),)
        self.told = [(SMALL, BARE, LOST), (SMALL, BARE, LATE), (SMALL, anew, LOST),
                     (SMALL, SAFE, (((0,), ()), ((1,), (0, 0)), ((),), 2)),
                     (PAIR, BARE, (((1, 0), (0, 0)), ((-1, 1), ()), ((down,), ()), 0)),
                     (JOINT, late, (((1,), (0, 0)), ((-1,), (0, 0)), ((down, gone),), 1))]
        self.told = [told + (find_mending(*told),) for told in self.told]

    def check(self, told, value):
        """Return what is_mending says, which is also so by the definition."""
        found = is_mending(*told[:3], value)
        self.assertIs(found, model.holds_as_mending(*told[:3], value), value)
        return found

    def test_what_was_told(self):
        for told in self.told:
            self.assertGreater(len(told[3]), 0)
            self.assertIs(self.check(told, told[3]), True)

    def test_steps_left_out_put_in_twice_and_turned_about(self):
        found = []
        for told in self.told:
            mending = told[3]
            for at in range(len(mending) + 1):
                found += [self.check(told, mending[:at]), self.check(told, mending[at:]),
                          self.check(told, mending[:at] + mending[at + 1:]),
                          self.check(told, mending[:at + 1] + mending[at:])]
                for step in (UP, DOWN, IN, OUT, FIRST, SECOND, ANEW):
                    found.append(self.check(told, mending[:at] + (step,) + mending[at:]))
            found.append(self.check(told, mending[::-1]))
        self.assertEqual(set(found), {False, True})

    def test_what_differs_at_some_depth(self):
        for told in self.told:
            for value in differing(told[3]) + other_kinds(told[3]):
                self.check(told, value)
            for value in (list(told[3]), (told[3],), dict.fromkeys(told[3]), listed(told[3])):
                self.assertIs(self.check(told, value), False)

    def test_longer_mendings(self):
        for told in self.told:
            case, plan, standing, mending = told
            end = model.along_path(case, plan, mending, standing)[-1]
            for step in steps(case, plan, end):
                if step == ANEW:
                    continue
                # The source is another one, and then it is as at first again.
                self.assertIs(self.check(told, mending + (step,)), False)
                again = find_mending(case, plan, after(case, plan, end, step))
                self.check(told, mending + (step,) + (again or ()))
        longer = self.told[0][3] * 100
        self.assertIs(self.check(self.told[0], longer), True)
        self.assertIs(self.check(self.told[0], longer + (OUT, SECOND)), False)

    def test_paths_with_a_beginning_anew(self):
        for anew in ('cut', 'kept'):
            plan = plan_with(BARE, anew=anew)
            self.assertIs(is_mending(SMALL, plan, LOST, (ANEW,)), False)
            mending = find_mending(SMALL, plan, LOST)
            for at in range(len(mending) + 1):
                value = mending[:at] + (ANEW,) + mending[at:]
                self.assertIs(is_mending(SMALL, plan, LOST, value), False)

    def test_the_empty_mending(self):
        for case, plan, standing in some_standings()[::3]:
            right = model.is_mended(case, standing, standing)
            self.assertIs(is_mending(case, plan, standing, ()), right)
            for value in ([], None, '', 0, False, {}):
                self.assertIs(is_mending(case, plan, standing, value), False)

    def test_other_values(self):
        for told in self.told:
            for value in STRANGE_VALUES + [True, 0, told[2], told[3][-1]]:
                self.assertIs(is_mending(*told[:3], value), False)
            for strange in STRANGE_VALUES:
                for at in range(len(told[3])):
                    self.assertIs(is_mending(*told[:3], with_part(told[3], at, strange)), False)
                self.assertIs(is_mending(*told[:3], told[3] + (strange,)), False)

    def test_no_argument_changes(self):
        for value in (self.told[0][3], listed(self.told[0][3]), [[]], ({}, []), {0: []}):
            arguments = [SMALL, BARE, LOST, value]
            before = copy.deepcopy(arguments)
            is_mending(*arguments)
            is_hopeless(*arguments)
            self.assertEqual(arguments, before)


class IsHopeless(unittest.TestCase):
    @classmethod
    def setUpClass(cls):
        # (case, plan, standing, texts of all standings, least hopeless set)
        cls.told = []
        small = (1, 1, 1, ((0, 0),), True)
        for case, plan, standing in (
                (SMALL, DEAF, EXTRA), (SMALL, plan_with(DEAF, anew='kept'), EXTRA),
                (SMALL, plan_with(SAFE, children='now', tells_children=False, looks_again=False),
                 (((0,), ()), ((-1,), (0, 0)), ((),), 1)),
                (small, plan_with(BARE, children='now', tells_value=True),
                 (((-1,), ()), ((-1,), (0, 0)), ((), ()), 0))):
            hopeless = find_hopeless(case, plan, standing)
            valid = set(map(repr, model.every_standing(case, plan)))
            cls.told.append((case, plan, standing, valid, hopeless))

    def check(self, told, value):
        """Return what is_hopeless says, which is also so by the definition."""
        found = is_hopeless(*told[:3], value)
        self.assertIs(found, model.holds_as_hopeless(*told[:4], value), value)
        return found

    def test_what_was_told(self):
        for told in self.told:
            self.assertIsNotNone(told[4], told[:3])
            self.assertIs(self.check(told, told[4]), True)

    def test_a_standing_left_out_twice_or_turned_about(self):
        for told in self.told:
            hopeless = told[4]
            for at in range(0, len(hopeless), 1 + len(hopeless) // 25):
                for value in (hopeless[:at] + hopeless[at + 1:], hopeless[:at + 1] + hopeless[at:],
                              hopeless[:at] + hopeless[at:at + 2][::-1] + hopeless[at + 2:]):
                    self.assertIs(self.check(told, value), value == hopeless)
            self.assertIs(self.check(told, hopeless[::-1]), False)
            self.assertIs(self.check(told, hopeless + hopeless), False)
            self.assertIs(self.check(told, (told[2],)), False)

    def test_standings_put_in(self):
        found = []
        for told in self.told:
            for standing in model.every_standing(*told[:2])[::23]:
                if standing not in told[4]:
                    found.append(self.check(told, tuple(sorted(told[4] + (standing,)))))
                    self.assertIs(self.check(told, (standing,) + told[4] + (standing,)), False)
        self.assertEqual(set(found), {False, True})

    def test_greater_sets(self):
        found = []
        for told in self.told:
            case, plan, _, _, hopeless = told
            for standing in model.every_standing(case, plan)[::41]:
                more = set(hopeless) | set(model.mending_distances(case, plan, standing))
                value = tuple(sorted(more))
                found.append(len(value) > len(hopeless) and self.check(told, value))
        self.assertEqual(set(found), {False, True})

    def test_more_messages_than_late(self):
        # All steps of the overfull standing lead into the set.
        message = (('child', (0, 0), -1),)
        hopeless = find_hopeless(SMALL, DEAF, EXTRA)
        for many in (1, 2):
            standing = with_part(EXTRA, 2, ((message,) * many,))
            value = set(hopeless) | set(model.mending_distances(SMALL, DEAF, standing))
            self.assertIs(is_hopeless(SMALL, DEAF, EXTRA, tuple(sorted(value))), many == 1)

    def test_the_standing_itself_must_be_there(self):
        for case, plan, _, valid, hopeless in self.told:
            found = []
            for standing in model.every_standing(case, plan)[::61] + list(hopeless)[::9]:
                found.append(self.check((case, plan, standing, valid), hopeless))
                # None of it may be right with the same source as this standing.
                if standing not in hopeless:
                    self.assertIs(found[-1], False)
            self.assertEqual(set(found), {False, True})

    def test_parts_changed_at_some_depth(self):
        for told in self.told:
            hopeless = told[4]
            for at in (0, len(hopeless) // 2, len(hopeless) - 1):
                for other in differing(hopeless[at]) + other_kinds(hopeless[at]):
                    self.check(told, with_part(hopeless, at, other))

    def test_other_kinds(self):
        for told in self.told:
            hopeless = told[4]
            for value in (list(hopeless), dict.fromkeys(hopeless), (hopeless,), [hopeless],
                          listed(hopeless), hopeless + (None,), (True,) + hopeless):
                self.assertIs(self.check(told, value), False)

    def test_other_values(self):
        for told in self.told:
            for value in STRANGE_VALUES + [True, 0, told[2], (told[2],), ()]:
                self.assertIs(self.check(told, value), False)
        told = self.told[0]
        for strange in STRANGE_VALUES:
            for at in (0, len(told[4]) // 3):
                self.assertIs(self.check(told, with_part(told[4], at, strange)), False)
            self.assertIs(self.check(told, told[4] + (strange,)), False)

    def test_steps_by_beginning_anew_may_lead_out(self):
        plan = plan_with(DEAF, anew='kept')
        hopeless = find_hopeless(SMALL, plan, EXTRA)
        leads = {after(SMALL, plan, standing, ANEW) in hopeless for standing in hopeless}
        self.assertIn(False, leads)
        self.assertIs(is_hopeless(SMALL, plan, EXTRA, hopeless), True)

    def test_other_cases_and_plans(self):
        for case, plan, standing, _, hopeless in self.told:
            turned = plan_with(plan, lanes=3 - plan[0])
            self.assertIs(is_hopeless(case, turned, standing, hopeless), False)
            self.assertIs(is_hopeless((3, 1, 1, (), False), plan, standing, hopeless), False)


class Time(unittest.TestCase):
    def test_the_largest_cases(self):
        chance = random.Random(4)
        found = set()
        for plan in LARGE_PLANS:
            for _ in range(3):
                standing = any_standing(LARGE, plan, chance)
                soon(self, outcomes, LARGE, plan, standing)
                soon(self, settles, LARGE, plan, standing)
                mending = soon(self, find_mending, LARGE, plan, standing)
                hopeless = soon(self, find_hopeless, LARGE, plan, standing)
                self.assertEqual([mending, hopeless].count(None), 1)
                found.add(mending is None)
                if hopeless is not None:
                    self.assertIs(
                        soon(self, is_hopeless, LARGE, plan, standing, hopeless), True)
                    self.assertIs(
                        soon(self, is_hopeless, LARGE, plan, standing, hopeless[1:]), False)
                else:
                    self.assertIs(soon(self, is_mending, LARGE, plan, standing, mending), True)
        self.assertEqual(found, {False, True})

    def test_long_values(self):
        value = (OUT, SECOND, IN, SECOND) * 2_000
        self.assertIs(soon(self, is_mending, SMALL, BARE, LOST, value), True)
        self.assertIs(soon(self, is_mending, SMALL, BARE, LOST, value + (ANEW,)), False)


if __name__ == '__main__':
    unittest.main()
