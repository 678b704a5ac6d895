"""Tests of somerows.pairs: points [2] and [14]."""

import copy
import itertools
import random
import unittest

import model
from samples import BARE, JOINT, PAIR, SAFE, SMALL, STRANGE_VALUES
from samples import differing, every_plan, listed, other_kinds, plan_with, searched, with_part
from somerows.faults import faults
from somerows.pairs import after_pair, alike_groups, are_alike, find_pair_table, find_parting
from somerows.pairs import is_pair_table, is_parting, pair_beginning, pair_steps
from somerows.plans import all_plans
from somerows.standings import after, beginning, steps
from timing import soon

ABSENT = ((-1,), ())
UP, DOWN = ('commit', (('parent', 0, 1),)), ('commit', (('parent', 0, 0),))
IN, OUT = ('commit', (('child', (0, 0)),)), ('commit', (('child', ()),))
FIRST, SECOND, ANEW = ('deliver', 0), ('deliver', 1), ('anew',)
DULL = SAFE[:4] + (False, False, False, 'never')
KEEN = SAFE[:6] + (False, 'never')

# The case and a plan of the greatest pair tables.
LARGE = (1, 2, 2, ((0, 0), (1, 1)), True)
LARGE_PLAN = (2, 2, 'either', 'either', True, True, False, 'kept')


def other_plan(plan, seed):
    """Return a plan with the same lanes, late and anew."""
    return random.Random(seed).choice(all_plans(plan[0], plan[1], plan[7]))


def pairs_of_plans():
    """Return triples of a case and two plans: alike, nearly alike and others."""
    found = []
    for number, (case, plan) in enumerate(searched()):
        found.append((case, plan, (plan, other_plan(plan, number))[number % 4 > 0]))
        for name in ('tells_value', 'tells_children', 'looks_again')[number % 3::3]:
            found.append((case, plan, plan_with(plan, **{name: True})))
    return found


class Examples(unittest.TestCase):
    def test_the_examples_of_the_document(self):
        self.assertEqual(
            [are_alike(SMALL, SAFE, SAFE[:6] + (False, 'never')),
             are_alike(SMALL, SAFE, SAFE[:4] + (False, False, False, 'never'))], [True, False])
        self.assertEqual(
            [len(find_parting(SMALL, SAFE, SAFE[:4] + (False, False, False, 'never'))),
             find_pair_table(SMALL, SAFE, SAFE[:4] + (False, False, False, 'never'))], [6, None])
        paired = pair_beginning(SMALL, SAFE, SAFE[:5] + (False, False, 'never'))
        self.assertEqual(
            [paired, after_pair(SMALL, SAFE, SAFE[:5] + (False, False, 'never'), paired,
                                ('commit', (('parent', 0, 1),)))],
            [(((-1,), ()), ((-1,), ()), ((-1,), ()), ((),)),
             (((1,), ()), ((-1,), ()), ((-1,), ()),
              ((((('parent', 0, 1, ()),), (('parent', 0, 1, ()),)),),))])
        self.assertEqual(
            alike_groups(SMALL, [SAFE, SAFE[:4] + (False, False, False, 'never'),
                                 SAFE[:6] + (False, 'never')]),
            [[(1, 1, 'all', 'all', False, False, False, 'never')],
             [(1, 1, 'all', 'all', True, True, False, 'never'),
              (1, 1, 'all', 'all', True, True, True, 'never')]])


class Walks(unittest.TestCase):
    def walk(self, case, first, second, length, seed):
        """Yield (pair standing, first plan's standing, second plan's) along a walk."""
        chance = random.Random(seed)
        pair, one, two = pair_beginning(case, first, second), beginning(case, first), beginning(
            case, second)
        for _ in range(length):
            yield pair, one, two
            step = chance.choice(pair_steps(case, first, second, pair))
            pair = after_pair(case, first, second, pair, step)
            one, two = after(case, first, one, step), after(case, second, two, step)
        yield pair, one, two

    def test_each_plan_followed_alone(self):
        parted = set()
        for number, (case, first, second) in enumerate(pairs_of_plans()):
            for pair, one, two in self.walk(case, first, second, 40, number):
                source, copy_one, copy_two, lanes = pair
                self.assertEqual((source, source), (one[0], two[0]))
                self.assertEqual((copy_one, copy_two), (one[1], two[1]))
                self.assertEqual(len(lanes), first[0])
                for lane, (places, left, right) in enumerate(zip(lanes, one[2], two[2])):
                    self.assertEqual(places, tuple(zip(left, right)), lane)
                told = pair_steps(case, first, second, pair)
                self.assertEqual(told, steps(case, first, one))
                self.assertEqual(told, steps(case, second, two))
                parted.add(copy_one == copy_two)
        self.assertEqual(parted, {False, True})

    def test_against_the_second_working_out(self):
        for number, (case, first, second) in enumerate(pairs_of_plans()[::3]):
            for pair, _, _ in self.walk(case, first, second, 15, number):
                told = pair_steps(case, first, second, pair)
                self.assertEqual(told, sorted(told))
                self.assertEqual(told, model.pair_steps(case, first, second, pair))
                self.assertIs(type(told), list)
                for step in told:
                    self.assertEqual(after_pair(case, first, second, pair, step),
                                     model.after_pair(case, first, second, pair, step))

    def test_standings_that_no_steps_lead_to(self):
        for first, second in ((SAFE, KEEN), (plan_with(BARE, anew='cut'),
                                             plan_with(BARE, anew='cut', children='now'))):
            for pair in model.every_pair_standing(SMALL, first, second)[::53]:
                told = pair_steps(SMALL, first, second, pair)
                self.assertEqual(told, model.pair_steps(SMALL, first, second, pair))
                for step in told:
                    self.assertEqual(after_pair(SMALL, first, second, pair, step),
                                     model.after_pair(SMALL, first, second, pair, step))


class Steps(unittest.TestCase):
    def test_the_beginning(self):
        for case, first, second in pairs_of_plans():
            absent = ((-1,) * case[0], ())
            self.assertEqual(pair_beginning(case, first, second),
                             (absent, absent, absent, ((),) * first[0]))

    def test_full_lanes(self):
        place = (('parent', 0, 1, ()),), (('parent', 0, 1, ()),)
        lone = (('child', (0, 0), -1),), (('child', (0, 0), -1),)
        for late in (1, 2):
            first = plan_with(BARE, late=late)
            second = plan_with(first, looks_again=True)
            for many, lonely in itertools.product(range(late + 1), repeat=2):
                standing = (((1,), ()), ABSENT, ABSENT, ((place,) * many, (lone,) * lonely))
                told = pair_steps(SMALL, first, second, standing)
                self.assertEqual(DOWN in told, many < late)
                self.assertEqual(IN in told, lonely < late)
                self.assertEqual(FIRST in told, many > 0)
                self.assertEqual(SECOND in told, lonely > 0)

    def test_messages_that_only_one_of_the_plans_sends(self):
        deaf = plan_with(SAFE, children='now', parents='now')
        for plans, down in (((SAFE, deaf), ((('parent', 0, 0, ()),), ())),
                            ((deaf, SAFE), ((), (('parent', 0, 0, ()),)))):
            standing = pair_beginning(SMALL, *plans)
            standing = after_pair(SMALL, *plans, standing, DOWN)
            # The place is taken all the same.
            self.assertEqual(standing, (((0,), ()), ABSENT, ABSENT, ((down,),)))
            self.assertEqual(pair_steps(SMALL, *plans, standing), [FIRST])
        # Neither of them sends it.
        other = plan_with(deaf, looks_again=False)
        standing = after_pair(SMALL, deaf, other, pair_beginning(SMALL, deaf, other), DOWN)
        self.assertEqual(standing, (((0,), ()), ABSENT, ABSENT, ((((), ()),),)))

    def test_a_delivery_by_each_plan(self):
        standing = (((1,), (0, 0)), ((1,), ()), ((1,), ()),
                    ((((('child', (0, 0), 1),), ()),),))
        deaf = plan_with(SAFE, children='now')
        self.assertEqual(after_pair(SMALL, SAFE, deaf, standing, FIRST),
                         (((1,), (0, 0)), ((1,), (0, 0)), ((1,), ()), ((),)))
        # Only the second one looks again.
        first = plan_with(SAFE, tells_children=False, looks_again=False)
        second = plan_with(first, looks_again=True)
        place = ((('parent', 0, 0, ()),), (('parent', 0, 0, ()),))
        held = ((1,), (0, 0))
        for plans, later in (((first, second), (((-1,), (0, 0)), ABSENT)),
                             ((second, first), (ABSENT, ((-1,), (0, 0))))):
            standing = (((0,), (0, 0)), held, held, ((place,),))
            self.assertEqual(after_pair(SMALL, *plans, standing, FIRST),
                             (((0,), (0, 0)),) + later + (((),),))

    def test_the_first_place_is_delivered(self):
        first = plan_with(SAFE, late=2)
        second = plan_with(first, looks_again=False)
        up, down = (('parent', 0, 1, ()),), (('parent', 0, 0, ()),)
        standing = (((0,), ()), ABSENT, ABSENT, (((up, up), (down, down)),))
        self.assertEqual(after_pair(SMALL, first, second, standing, FIRST),
                         (((0,), ()), ((1,), ()), ((1,), ()), (((down, down),),)))

    def test_beginning_anew(self):
        place = ((('parent', 0, 1, ()),), (('parent', 0, 1, ()),))
        source, right = ((1,), (0, 0)), ((1,), (0, 0))
        for held in ((ABSENT, ABSENT), (((1,), ()), ((-1,), (0, 0)))):
            standing = (source,) + held + (((place,), ()),)
            for anew, lanes in (('cut', ((), ())), ('kept', ((place,), ()))):
                first = plan_with(BARE, anew=anew)
                second = plan_with(first, looks_again=True)
                self.assertEqual(pair_steps(SMALL, first, second, standing)[0], ANEW)
                self.assertEqual(after_pair(SMALL, first, second, standing, ANEW),
                                 (source, right, right, lanes))
            self.assertNotIn(ANEW, pair_steps(SMALL, BARE, BARE, standing))
        failing = (((0,), (0, 0)), ((1,), (0, 0)), ((1,), ()), ((), ()))
        first = plan_with(BARE, anew='kept')
        self.assertEqual(after_pair(SMALL, first, first, failing, ANEW),
                         (((0,), (0, 0)), ABSENT, ABSENT, ((), ())))

    def test_a_new_list_each_time(self):
        standing = pair_beginning(SMALL, SAFE, KEEN)
        told = pair_steps(SMALL, SAFE, KEEN, standing)
        told.clear()
        self.assertEqual(len(pair_steps(SMALL, SAFE, KEEN, standing)), 2)


class Finding(unittest.TestCase):
    def test_exactly_one_of_both(self):
        found = []
        for case, first, second in pairs_of_plans()[::2]:
            distances = model.pair_distances(case, first, second)
            fewest = model.fewest_to_part(distances)
            table, parting = find_pair_table(case, first, second), find_parting(case, first, second)
            found.append(fewest)
            self.assertIs(are_alike(case, first, second), fewest is None)
            if fewest is None:
                self.assertIsNone(parting)
                self.assertIs(type(table), tuple)
                # It has just the pair standings that steps lead to.
                self.assertEqual(table, tuple(sorted(distances)))
                self.assertIs(is_pair_table(case, first, second, table), True)
            else:
                self.assertIsNone(table)
                self.assertEqual(len(parting), fewest)
                self.assertIs(model.holds_as_parting(case, first, second, parting), True)
                self.assertIs(is_parting(case, first, second, parting), True)
        self.assertGreater(found.count(None), 10)
        self.assertGreater(len(set(found)), 4)

    def test_a_plan_is_alike_to_itself(self):
        for case, plan in searched()[::3]:
            self.assertIs(are_alike(case, plan, plan), True)
            self.assertIsNone(find_parting(case, plan, plan))
            table = find_pair_table(case, plan, plan)
            self.assertIs(is_pair_table(case, plan, plan, table), True)

    def test_the_order_of_the_plans(self):
        for case, first, second in pairs_of_plans()[::5]:
            self.assertIs(are_alike(case, second, first), are_alike(case, first, second))
            one, two = find_parting(case, first, second), find_parting(case, second, first)
            self.assertEqual(one and len(one), two and len(two))

    def test_plans_that_are_alike_have_the_same_faults(self):
        for case, first, second in pairs_of_plans():
            if first == second or not are_alike(case, first, second):
                continue
            chance = random.Random(1)
            one, two = beginning(case, first), beginning(case, second)
            for _ in range(40):
                self.assertEqual(faults(case, one), faults(case, two))
                step = chance.choice(steps(case, first, one))
                one, two = after(case, first, one, step), after(case, second, two, step)

    def test_equal_arguments_give_equal_results_and_do_not_change(self):
        for arguments in ([SMALL, SAFE, DULL], [JOINT, SAFE, KEEN]):
            kept = copy.deepcopy(arguments)
            found = [function(*arguments) for function in (find_pair_table, find_parting, are_alike)]
            self.assertEqual(arguments, kept)
            self.assertEqual(found, [function(*kept) for function in
                                     (find_pair_table, find_parting, are_alike)])


class IsPairTable(unittest.TestCase):
    @classmethod
    def setUpClass(cls):
        # (case, first, second, texts of all pair standings, least table)
        cls.told = []
        for case, first, second in (
                (SMALL, SAFE, KEEN), (SMALL, SAFE, SAFE), (JOINT, DULL, DULL),
                (SMALL, plan_with(SAFE, anew='kept'), plan_with(KEEN, anew='kept')),
                ((1, 1, 1, ((0, 0),), True), BARE, plan_with(BARE, children='either'))):
            table = find_pair_table(case, first, second)
            valid = set(map(repr, model.every_pair_standing(case, first, second)))
            cls.told.append((case, first, second, valid, table))

    def check(self, told, value):
        """Return what is_pair_table says, which is also so by the definition."""
        found = is_pair_table(*told[:3], value)
        self.assertIs(found, model.holds_as_pair_table(*told[:4], value), value)
        return found

    def assert_no_table(self, told, value):
        self.assertIs(self.check(told, value), False)

    def test_what_was_told(self):
        for told in self.told:
            self.assertIsNotNone(told[4])
            self.assertIs(self.check(told, told[4]), True)

    def test_a_standing_left_out_twice_or_turned_about(self):
        for told in self.told:
            table = told[4]
            for at in range(0, len(table), 1 + len(table) // 25):
                self.assert_no_table(told, table[:at] + table[at + 1:])
                self.assert_no_table(told, table[:at + 1] + table[at:])
                if at:
                    self.assert_no_table(
                        told, table[:at - 1] + table[at - 1:at + 1][::-1] + table[at + 1:])
            start = table.index(pair_beginning(*told[:3]))
            self.assert_no_table(told, table[:start] + table[start + 1:])
            self.assert_no_table(told, table[::-1])
            self.assert_no_table(told, table + table)

    def test_standings_put_in(self):
        found = []
        for told in self.told:
            table = told[4]
            for standing in model.every_pair_standing(*told[:3])[::97]:
                if standing not in table:
                    found.append(self.check(told, tuple(sorted(table + (standing,)))))
                    self.assert_no_table(told, table + (standing,) + table[:1])
        self.assertIn(False, found)

    def test_greater_tables(self):
        # The least table and one standing more, with all that steps lead to from there.
        found = []
        for told in self.told[:2]:
            case, first, second, _, table = told
            for standing in model.every_pair_standing(case, first, second)[::211]:
                known, pending = set(table), [standing]
                for before in pending:
                    if before not in known:
                        known.add(before)
                        pending += model.pair_laters(case, first, second, before)
                same = all(one == two for _, one, two, _ in known)
                self.assertIs(self.check(told, tuple(sorted(known))), same)
                found.append(same and len(known) > len(table))
        self.assertIn(True, found)

    def test_more_places_than_late(self):
        # All steps of the overfull standing lead into the table.
        for late in (1, 2):
            plans = [plan_with(plan, late=late) for plan in (SAFE, KEEN)]
            place = ((('parent', 0, 1, ()),),) * 2
            for many in (late, late + 1):
                standing = (((1,), ()), ((1,), ()), ((1,), ()), ((place,) * many,))
                known, pending = set(find_pair_table(SMALL, *plans)), [standing]
                for before in pending:
                    if before not in known:
                        known.add(before)
                        pending += model.pair_laters(SMALL, *plans, before)
                self.assertIs(is_pair_table(SMALL, *plans, tuple(sorted(known))), many == late)

    def test_a_table_with_a_copy_that_no_steps_lead_to(self):
        # Each delivery puts the copy right, so that all steps lead back into the table.
        told = (SMALL, SAFE, SAFE)
        valid = set(map(repr, model.every_pair_standing(*told)))
        table = find_pair_table(*told)
        odd = {(source, ((-1,), (0, 0)), ((-1,), (0, 0)), lanes) for source, _, _, lanes in table}
        more = tuple(sorted(odd | set(table)))
        found = is_pair_table(*told, more)
        self.assertIs(found, model.holds_as_pair_table(*told, valid, more))

    def test_parts_changed_at_some_depth(self):
        for told in self.told:
            table = told[4]
            for at in (0, len(table) // 2, len(table) - 1):
                for other in differing(table[at]) + other_kinds(table[at]):
                    value = with_part(table, at, other)
                    self.check(told, value)
                    if type(other) is tuple and repr(other) in told[3]:
                        self.check(told, tuple(sorted(set(value))))

    def test_other_kinds(self):
        for told in self.told:
            table = told[4]
            for value in (list(table), dict.fromkeys(table), dict.fromkeys(table, 0), (table,),
                          [table], listed(table), table + (None,), (True,) + table):
                self.assert_no_table(told, value)

    def test_other_values(self):
        for told in self.told:
            for value in STRANGE_VALUES + [True, 0, pair_beginning(*told[:3]),
                                           (pair_beginning(*told[:3]),), (beginning(*told[:2]),)]:
                self.assert_no_table(told, value)
        told = self.told[0]
        for strange in STRANGE_VALUES:
            for at in (0, len(told[4]) // 3):
                self.assert_no_table(told, with_part(told[4], at, strange))
            self.assert_no_table(told, told[4] + (strange,))

    def test_places_of_two_commits(self):
        told = self.told[0]
        case, first, second, valid, table = told
        up, down = (('parent', 0, 1, ()),), (('parent', 0, 0, ()),)
        for place, right in (((up, up), True), ((down, down), True), ((up, down), False),
                             ((up,), False), ((up, up, up), False), (up, False), ((), False),
                             ((up, None), False), ([up, up], False)):
            standing = (((1,), ()), ABSENT, ABSENT, ((place,),))
            self.assertIs(repr(standing) in valid, right)
            if type(place) is tuple:
                value = tuple(sorted(set(table) | {standing})) if right else (standing,) + table
                self.check(told, value)
            self.assert_no_table(told, table + (standing,) if right else (standing,) + table)

    def test_no_standing_may_have_copies_that_differ(self):
        told = (SMALL, SAFE, DULL)
        distances = model.pair_distances(*told)
        self.assertIs(is_pair_table(*told, tuple(sorted(distances))), False)
        same = [standing for standing in distances if standing[1] == standing[2]]
        self.assertIs(is_pair_table(*told, tuple(sorted(same))), False)

    def test_other_cases_and_plans(self):
        for case, first, second, _, table in self.told:
            for turned in (plan_with(first, lanes=3 - first[0]), plan_with(first, anew='cut')):
                other = plan_with(second, lanes=turned[0], anew=turned[7])
                valid = set(map(repr, model.every_pair_standing(case, turned, other)))
                self.assertIs(
                    is_pair_table(case, turned, other, table),
                    model.holds_as_pair_table(case, turned, other, valid, table))
            self.assertIs(is_pair_table((3, 1, 1, (), False), first, second, table), False)

    def test_no_argument_changes(self):
        for value in (self.told[0][4], listed(self.told[0][4]), [[]], ({}, []), {0: []}):
            arguments = [SMALL, SAFE, KEEN, value]
            before = copy.deepcopy(arguments)
            is_pair_table(*arguments)
            is_parting(*arguments)
            self.assertEqual(arguments, before)


class IsParting(unittest.TestCase):
    def setUp(self):
        self.told = []
        for case, first, second in (
                (SMALL, SAFE, DULL), (PAIR, BARE, plan_with(BARE, looks_again=True)),
                (JOINT, plan_with(BARE, anew='kept', late=2),
                 plan_with(BARE, anew='kept', late=2, children='now')),
                (SMALL, plan_with(SAFE, anew='cut'), plan_with(SAFE, anew='cut', parents='now'))):
            self.told.append((case, first, second, find_parting(case, first, second)))

    def check(self, told, value):
        """Return what is_parting says, which is also so by the definition."""
        found = is_parting(*told[:3], value)
        self.assertIs(found, model.holds_as_parting(*told[:3], value), value)
        return found

    def test_what_was_told(self):
        for told in self.told:
            self.assertIsNotNone(told[3])
            self.assertIs(self.check(told, told[3]), True)

    def test_what_differs_by_a_part(self):
        for told in self.told:
            for value in differing(told[3]) + other_kinds(told[3]):
                self.check(told, value)
            for value in (list(told[3]), (told[3],), dict.fromkeys(told[3]), listed(told[3])):
                self.assertIs(self.check(told, value), False)

    def test_steps_put_in_and_exchanged(self):
        found = []
        for told in self.told:
            parting = told[3]
            for at in range(len(parting) + 1):
                for step in (UP, DOWN, IN, OUT, FIRST, SECOND, ANEW):
                    found += [self.check(told, parting[:at] + (step,) + parting[at:]),
                              self.check(told, parting[:at] + (step,) + parting[at + 1:])]
        self.assertEqual(set(found), {False, True})

    def test_neither_before_nor_beyond_the_end(self):
        for told in self.told:
            case, first, second, parting = told
            for end in range(len(parting)):
                self.assertIs(self.check(told, parting[:end]), False)
            standing = model.along_pair(case, first, second, parting)[-1]
            for step in pair_steps(case, first, second, standing):
                self.assertIs(self.check(told, parting + (step,)), False)

    def test_longer_partings(self):
        told = self.told[0]
        longer = (UP, FIRST, DOWN, FIRST) * 40 + told[3][-6:]
        self.assertIs(self.check(told, (UP, FIRST, DOWN, FIRST) * 40 + (UP, FIRST)), False)
        self.check(told, longer)

    def test_all_short_tuples_of_steps(self):
        found = []
        first = plan_with(SAFE, parents='all', anew='kept')
        for second in (plan_with(first, parents='now'), plan_with(first, children='now')):
            for length in range(6):
                for value in itertools.product((UP, DOWN, FIRST, ANEW), repeat=length):
                    found.append(self.check((SMALL, first, second), value))
        self.assertEqual(set(found), {False, True})

    def test_plans_that_are_alike_have_none(self):
        for value in [(), (UP,), (UP, FIRST)] + [told[3] for told in self.told]:
            self.assertIs(is_parting(SMALL, SAFE, KEEN, value), False)
            self.assertIs(is_parting(SMALL, SAFE, SAFE, value), False)

    def test_other_values(self):
        for told in self.told:
            for value in STRANGE_VALUES + [True, 0, pair_beginning(*told[:3]), told[3][-1]]:
                self.assertIs(is_parting(*told[:3], value), False)
            for strange in STRANGE_VALUES:
                for at in range(len(told[3])):
                    self.assertIs(is_parting(*told[:3], with_part(told[3], at, strange)), False)
                self.assertIs(is_parting(*told[:3], told[3] + (strange,)), False)


class AlikeGroups(unittest.TestCase):
    def plans(self, seed, many, shape):
        return random.Random(seed).sample(every_plan(*[(part,) for part in shape]), many)

    def check(self, case, plans):
        before = list(plans)
        groups = alike_groups(case, plans)
        self.assertEqual(plans, before)
        self.assertEqual([type(group) for group in [groups] + groups], [list] * (1 + len(groups)))
        self.assertEqual(sorted(plan for group in groups for plan in group), sorted(plans))
        self.assertEqual([sorted(group) for group in groups], groups)
        self.assertEqual(sorted(groups), groups)
        return groups

    def test_two_plans_are_in_one_list_exactly_if_they_are_alike(self):
        for seed, (case, shape) in enumerate((
                (SMALL, (1, 1, 'never')), (SMALL, (2, 1, 'kept')), (JOINT, (1, 2, 'cut')),
                ((1, 1, 1, ((0, 0),), True), (2, 2, 'never')), (PAIR, (1, 1, 'kept')))):
            plans = self.plans(seed, 8, shape)
            groups = self.check(case, plans)
            home = {plan: number for number, group in enumerate(groups) for plan in group}
            for first, second in itertools.combinations(plans, 2):
                fewest = model.fewest_to_part(model.pair_distances(case, first, second))
                self.assertIs(home[first] == home[second], fewest is None)

    def test_another_order_changes_nothing(self):
        for seed in range(6):
            plans = self.plans(seed, 12, (1, 1, 'never'))
            groups = self.check(SMALL, plans)
            for _ in range(3):
                random.Random(seed).shuffle(plans)
                self.assertEqual(self.check(SMALL, plans), groups)
            self.assertEqual(self.check(SMALL, sorted(plans, reverse=True)), groups)

    def test_one_plan_all_alike_and_none(self):
        self.assertEqual(self.check(SMALL, [SAFE]), [[SAFE]])
        # No pair passes, so that all copies stay empty.
        plans = self.plans(3, 12, (2, 1, 'kept'))
        self.assertEqual(self.check((1, 2, 1, (), False), plans), [sorted(plans)])
        self.assertEqual(self.check(SMALL, [SAFE, DULL]), [[DULL], [SAFE]])

    def test_new_lists_each_time(self):
        groups = alike_groups(SMALL, [SAFE, DULL, KEEN])
        groups[0].clear()
        groups.clear()
        self.assertEqual(alike_groups(SMALL, [SAFE, DULL, KEEN]), [[DULL], [KEEN, SAFE]])


class Time(unittest.TestCase):
    def test_the_largest_pair_tables(self):
        for changes in ({}, {'parents': 'all'}, {'children': 'all'}):
            first, second = LARGE_PLAN, plan_with(LARGE_PLAN, **changes)
            table = soon(self, find_pair_table, LARGE, first, second)
            parting = soon(self, find_parting, LARGE, first, second)
            self.assertEqual([table, parting].count(None), 1)
            if table is not None:
                self.assertGreater(len(table), 3000)
                self.assertIs(soon(self, is_pair_table, LARGE, first, second, table), True)
                self.assertIs(soon(self, is_pair_table, LARGE, first, second, table[:-1]), False)
                self.assertIs(soon(self, is_parting, LARGE, first, second, table), False)

    def test_groups_of_12_plans(self):
        for case in (LARGE, (1, 2, 2, (), True), (3, 1, 1, ((0, 0),), True)):
            for shape in ((1, 2, 'never'), (2, 2, 'kept')):
                plans = all_plans(shape[0], 1 if case[0] > 1 else 2, shape[2])
                for some in (plans[::6], plans[:12], plans[-12:]):
                    groups = soon(self, alike_groups, case, some)
                    self.assertEqual(sum(map(len, groups)), 12)

    def test_long_values(self):
        plan = plan_with(SAFE, anew='kept')
        for value in ((ANEW,) * 9_000, (UP, FIRST, DOWN, FIRST) * 2_000):
            self.assertIs(soon(self, is_parting, SMALL, plan, plan, value), False)


if __name__ == '__main__':
    unittest.main()
