"""Tests of somerows.sights: points [2] and [15]."""

import copy
import itertools
import unittest

import model
from samples import BARE, PAIR, SAFE, SEARCHED, SMALL, STRANGE_VALUES
from samples import differing, listed, other_kinds, plan_with, searched, with_part
from somerows.sights import find_path, is_path, is_sight, possible_sources, sight_of, sources_after
from somerows.sights import sure_rows, watch_of
from somerows.standings import beginning
from timing import soon
from walks import walk

ABSENT = ((-1,), ())
UP, DOWN = ('commit', (('parent', 0, 1),)), ('commit', (('parent', 0, 0),))
IN = ('commit', (('child', (0, 0)),))
FIRST, SECOND, ANEW = ('deliver', 0), ('deliver', 1), ('anew',)

# Some of the most standings that steps lead to.
LARGE = ((1, 2, 2, ((0, 0), (1, 1)), True),
         (2, 2, 'either', 'either', True, True, False, 'kept'))


def every_sight(case, plan):
    """Return all sights that there can be, also those that no path leads to."""
    lengths = list(itertools.product(range(plan[1] + 1), repeat=plan[0]))
    return [(held, some) for held in model.every_copy(case) for some in lengths]


class Examples(unittest.TestCase):
    def test_the_examples_of_the_document(self):
        self.assertEqual(
            [sight_of(beginning(SMALL, BARE)), is_sight(SMALL, BARE, (((1,), ()), (0, 1))),
             is_sight(SMALL, BARE, (((1,), ()), (0, 2))),
             is_sight(SMALL, SAFE, (((0,), ()), (0,)))],
            [(((-1,), ()), (0, 0)), True, False, False])
        self.assertEqual(
            [possible_sources(SMALL, SAFE, (((-1,), ()), (0,))),
             possible_sources(SMALL, SAFE, (((1,), ()), (0,))),
             possible_sources(SMALL, SAFE, (((-1,), (0, 0)), (0,)))],
            [[((-1,), ()), ((0,), ()), ((0,), (0, 0))], [((1,), ())], []])
        self.assertEqual(
            [sure_rows(SMALL, SAFE, (((-1,), ()), (0,))), sure_rows(SMALL, SAFE, (((1,), ()), (0,))),
             sure_rows(SMALL, SAFE, (((-1,), (0, 0)), (0,)))],
            [((None,), None), ((1,), ()), None])
        self.assertEqual(
            [sources_after(SMALL, SAFE, ((((-1,), ()), (0,)), (((-1,), ()), (1,)))),
             sources_after(SMALL, SAFE, ((((-1,), ()), (0,)), (((-1,), ()), (1,)),
                                         (((1,), ()), (0,)))),
             sources_after(SMALL, SAFE, ((((-1,), ()), (1,)),))],
            [[((0,), ()), ((1,), ())], [((1,), ())], []])
        self.assertEqual(
            [find_path(SMALL, SAFE, (((-1,), ()), (0,)), ((-1,), ())),
             is_path(SMALL, SAFE, (('deliver', 0),)),
             watch_of(SMALL, SAFE, (('commit', (('parent', 0, 1),)),))],
            [(), False, ((((-1,), ()), (0,)), (((-1,), ()), (1,)))])


class SightOf(unittest.TestCase):
    def test_the_copy_and_the_lengths(self):
        message, other = (('parent', 0, 1, ()),), (('child', (0, 0), -1),)
        held = ((1,), (0, 0))
        for lanes, lengths in ((((),), (0,)), (((message,),), (1,)), (((message, ()),), (2,)),
                               (((), ()), (0, 0)), (((message,), (other, other)), (1, 2)),
                               ((((), ()), ((),)), (2, 1))):
            for source, mark in itertools.product((ABSENT, ((1,), (0, 0))), (0, 1, 2)):
                sight = sight_of((source, held, lanes, mark))
                self.assertEqual(sight, (held, lengths))
                self.assertEqual([type(sight), type(sight[1])], [tuple, tuple])

    def test_along_walks(self):
        for number, (case, plan) in enumerate(searched()[::3]):
            for standing in walk(case, plan, 20, number)[0]:
                sight = sight_of(standing)
                self.assertEqual(sight, model.sight(standing))
                self.assertIs(is_sight(case, plan, sight), True)


class IsSight(unittest.TestCase):
    def assert_no_sight(self, case, plan, value):
        self.assertIs(is_sight(case, plan, value), False, value)

    def test_all_that_there_can_be(self):
        for case in SEARCHED + [(3, 3, 2, ((0, 0), (1, 2)), True)]:
            for plan in (SAFE, BARE, plan_with(SAFE, late=2), plan_with(BARE, late=2)):
                for sight in every_sight(case, plan)[::1 + case[1] // 3 * 17]:
                    self.assertIs(is_sight(case, plan, sight), True)

    def test_no_path_need_lead_to_it(self):
        sight = (((-1,), (0, 0)), (0,))
        self.assertEqual(possible_sources(SMALL, SAFE, sight), [])
        self.assertIs(is_sight(SMALL, SAFE, sight), True)

    def test_lengths_at_and_beyond_late(self):
        for lanes, late in itertools.product((1, 2), (1, 2)):
            plan = plan_with(SAFE, lanes=lanes, late=late)
            for lengths in itertools.product(range(-1, 5), repeat=lanes):
                right = all(0 <= length <= late for length in lengths)
                self.assertIs(is_sight(SMALL, plan, (ABSENT, lengths)), right)

    def test_lengths_of_other_kinds(self):
        for wrong in (True, False, None, '0', (), (0,), [], 10 ** 59, {}):
            self.assert_no_sight(SMALL, SAFE, (ABSENT, (wrong,)))
            self.assert_no_sight(SMALL, BARE, (ABSENT, (wrong, 0)))
            self.assert_no_sight(SMALL, BARE, (ABSENT, (0, wrong)))
        for wrong in ([0], {0: 0}, 0, None, '0', (), (0, 0), ((0,),)):
            self.assert_no_sight(SMALL, SAFE, (ABSENT, wrong))
        for wrong in ([0, 0], 0, (), (0,), (0, 0, 0), ((0, 0),)):
            self.assert_no_sight(SMALL, BARE, (ABSENT, wrong))

    def test_wrong_copies(self):
        for wrong in (((0,), ()), ((2,), ()), ((-1, -1), ()), ((-1,), (0, 1)), ((-1,), (1, 0)),
                      ((True,), ()), ((-1,), (0, False)), ((-1,),), [(-1,), ()], ([-1], ()),
                      None, (), 0):
            self.assert_no_sight(SMALL, SAFE, (wrong, (0,)))

    def test_what_differs_by_a_part(self):
        for plan in (SAFE, plan_with(BARE, late=2)):
            valid = set(map(repr, every_sight(SMALL, plan)))
            for sight in every_sight(SMALL, plan):
                for other in differing(sight) + other_kinds(sight):
                    self.assertIs(is_sight(SMALL, plan, other), repr(other) in valid)

    def test_other_values(self):
        right = (ABSENT, (0,))
        for value in STRANGE_VALUES + [True, 0, list(right), right[::-1], right + (0,), right[:1],
                                       (right,), {right: right}, beginning(SMALL, SAFE), ABSENT]:
            self.assert_no_sight(SMALL, SAFE, value)
        for strange in STRANGE_VALUES:
            for at in (0, 1):
                # One of the strange values is a length, in a tuple.
                if strange != right[at]:
                    self.assert_no_sight(SMALL, SAFE, with_part(right, at, strange))

    def test_the_value_is_not_changed(self):
        for value in ((ABSENT, [0]), [[], {}], (([-1], ()), (0,))):
            before = copy.deepcopy(value)
            is_sight(SMALL, SAFE, value)
            is_path(SMALL, SAFE, value)
            self.assertEqual(value, before)


class Paths(unittest.TestCase):
    def setUp(self):
        self.told = []
        for number, (case, plan) in enumerate(searched()[::4]):
            standings, taken = walk(case, plan, 12, number)
            self.told.append((case, plan, tuple(taken), standings))

    def check(self, case, plan, value):
        """Check is_path by the definition, and watch_of where the value is one."""
        standings = model.along_path(case, plan, value)
        self.assertIs(is_path(case, plan, value), standings is not None, value)
        if standings is not None:
            self.assertEqual(watch_of(case, plan, value), tuple(map(model.sight, standings)))
        return standings is not None

    def test_walks(self):
        for case, plan, path, standings in self.told:
            for end in range(len(path) + 1):
                self.assertIs(is_path(case, plan, path[:end]), True)
                watch = watch_of(case, plan, path[:end])
                self.assertIs(type(watch), tuple)
                self.assertEqual(watch, tuple(map(sight_of, standings[:end + 1])))

    def test_the_empty_path(self):
        for case, plan in searched()[::9]:
            self.assertIs(is_path(case, plan, ()), True)
            self.assertEqual(watch_of(case, plan, ()), (sight_of(beginning(case, plan)),))

    def test_steps_left_out_put_in_and_exchanged(self):
        found = []
        for case, plan, path, _ in self.told[::2]:
            for at in range(len(path) + 1):
                found += [self.check(case, plan, path[:at] + path[at + 1:]),
                          self.check(case, plan, path[:at + 1] + path[at:])]
                for step in (UP, IN, FIRST, SECOND, ANEW):
                    found += [self.check(case, plan, path[:at] + (step,) + path[at:]),
                              self.check(case, plan, path[:at] + (step,) + path[at + 1:])]
        self.assertEqual(set(found), {False, True})

    def test_what_differs_by_a_part(self):
        for case, plan, path, _ in self.told[::6]:
            for other in differing(path[:6]) + other_kinds(path[:6]):
                self.check(case, plan, other)
            for other in (list(path), (path,), dict.fromkeys(path), listed(path)):
                self.assertIs(self.check(case, plan, other), False)

    def test_other_values(self):
        for case, plan, path, _ in self.told[::5]:
            for value in STRANGE_VALUES + [True, 0, path[0], beginning(case, plan)]:
                self.assertIs(is_path(case, plan, value), False)
            for strange in STRANGE_VALUES:
                self.assertIs(is_path(case, plan, with_part(path, 3, strange)), False)
                self.assertIs(is_path(case, plan, path + (strange,)), False)

    def test_no_step_into_a_full_lane_or_from_an_empty_one(self):
        self.assertIs(is_path(SMALL, SAFE, (UP, DOWN)), False)
        self.assertIs(is_path(SMALL, SAFE, (UP, FIRST, DOWN, FIRST)), True)
        self.assertIs(is_path(SMALL, plan_with(SAFE, late=2), (UP, DOWN)), True)
        self.assertIs(is_path(SMALL, SAFE, (UP, FIRST, FIRST)), False)
        self.assertIs(is_path(SMALL, SAFE, (UP, UP)), False)

    def test_long_values(self):
        plan = plan_with(SAFE, anew='kept')
        self.assertIs(soon(self, is_path, SMALL, plan, (ANEW,) * 9_000), True)
        self.assertEqual(len(soon(self, watch_of, SMALL, plan, (ANEW,) * 9_000)), 9_001)
        self.assertIs(soon(self, is_path, SMALL, plan, (ANEW,) * 9_000 + (FIRST,)), False)


class Sources(unittest.TestCase):
    @classmethod
    def setUpClass(cls):
        # (case, plan, for each sight that paths lead to and each source the fewest steps)
        cls.told = []
        for case, plan in searched()[::3]:
            fewest = {}
            for standing, number in model.distances(case, plan).items():
                place = model.sight(standing), standing[0]
                fewest[place] = min(number, fewest.get(place, number))
            cls.told.append((case, plan, fewest))

    def by_sight(self, fewest):
        found = {}
        for sight, source in fewest:
            found.setdefault(sight, []).append(source)
        return {sight: sorted(sources) for sight, sources in found.items()}

    def test_possible_sources(self):
        for case, plan, fewest in self.told:
            sources = self.by_sight(fewest)
            for sight in every_sight(case, plan):
                found = possible_sources(case, plan, sight)
                self.assertIs(type(found), list)
                self.assertEqual(found, sources.get(sight, []))

    def test_sure_rows(self):
        kinds = set()
        for case, plan, fewest in self.told:
            sources = self.by_sight(fewest)
            for sight in every_sight(case, plan)[::2]:
                found = sure_rows(case, plan, sight)
                if sight not in sources:
                    self.assertIsNone(found)
                    continue
                parents, child = [set(column) for column in zip(*(
                    parents for parents, _ in sources[sight]))], {
                        child for _, child in sources[sight]}
                right = (tuple(column.pop() if len(column) == 1 else None for column in parents),
                         child.pop() if len(child) == 1 else None)
                self.assertEqual(found, right)
                self.assertEqual([type(found), type(found[0])], [tuple, tuple])
                kinds |= {right[1], *right[0]}
        # States of each kind are sure somewhere: also that a row is absent.
        self.assertTrue({None, -1, 0, 1, (), (0, 0)} <= kinds, kinds)

    def test_find_path(self):
        for case, plan, fewest in self.told[::2]:
            every = model.every_source(case)
            for sight in every_sight(case, plan)[::3]:
                for source in every:
                    path = find_path(case, plan, sight, source)
                    if (sight, source) not in fewest:
                        self.assertIsNone(path)
                        continue
                    self.assertIs(type(path), tuple)
                    self.assertEqual(len(path), fewest[sight, source])
                    end = model.along_path(case, plan, path)[-1]
                    self.assertEqual((model.sight(end), end[0]), (sight, source))
                    self.assertIs(is_path(case, plan, path), True)

    def test_equal_results_and_new_lists(self):
        sight = (((-1,), ()), (0,))
        first, second = [possible_sources(SMALL, SAFE, sight) for _ in range(2)]
        self.assertEqual(first, second)
        first.clear()
        self.assertEqual(possible_sources(SMALL, SAFE, sight), second)
        self.assertEqual(find_path(SMALL, SAFE, sight, ((0,), (0, 0))),
                         find_path(SMALL, SAFE, sight, ((0,), (0, 0))))


class SourcesAfter(unittest.TestCase):
    def by_search(self, case, plan, watch):
        """Return the sources after the watch, by all paths that have it."""
        standings = {beginning(case, plan)}
        for at, sight in enumerate(watch):
            if at:
                standings = {later for standing in standings
                             for later in model.laters(case, plan, standing)}
            standings = {standing for standing in standings if model.sight(standing) == sight}
        return sorted({standing[0] for standing in standings})

    def test_whole_watches(self):
        for number, (case, plan) in enumerate(searched()[::3]):
            standings, _ = walk(case, plan, 15, number)
            watch = tuple(map(sight_of, standings))
            for end in range(1, len(watch) + 1):
                found = sources_after(case, plan, watch[:end])
                self.assertIs(type(found), list)
                self.assertEqual(found, self.by_search(case, plan, watch[:end]))
                self.assertIn(standings[end - 1][0], found)

    def test_among_the_possible_sources(self):
        fewer = set()
        for number, (case, plan) in enumerate(searched()[::7]):
            watch = tuple(map(sight_of, walk(case, plan, 10, number)[0]))
            for end in range(1, len(watch) + 1, 3):
                found = set(sources_after(case, plan, watch[:end]))
                possible = set(possible_sources(case, plan, watch[end - 1]))
                self.assertTrue(found <= possible)
                fewer.add(len(possible) - len(found))
        self.assertGreater(len(fewer), 2)

    def test_cut_watches_and_such_as_no_path_has(self):
        found = []
        for number, (case, plan) in enumerate(searched()[::5]):
            watch = tuple(map(sight_of, walk(case, plan, 10, number)[0]))
            for at in range(len(watch)):
                others = [watch[at:], watch[:at] + watch[at + 1:], watch[:at + 1] + watch[at:],
                          watch[::-1][at:]]
                for other in others:
                    if other:
                        found.append(sources_after(case, plan, other))
                        self.assertEqual(found[-1], self.by_search(case, plan, other))
        self.assertIn([], found)

    def test_not_from_the_beginning(self):
        for sight in every_sight(SMALL, SAFE):
            right = [ABSENT] if sight == (ABSENT, (0,)) else []
            self.assertEqual(sources_after(SMALL, SAFE, (sight,)), right)

    def test_a_watch_that_stands_still(self):
        start = (ABSENT, (0,))
        self.assertEqual(sources_after(SMALL, SAFE, (start, start)), [])
        for anew in ('cut', 'kept'):
            plan = plan_with(SAFE, anew=anew)
            self.assertEqual(sources_after(SMALL, plan, (start,) * 5), [ABSENT])

    def test_all_short_watches(self):
        plan = plan_with(SAFE, anew='cut', children='now')
        sights = [sight for sight in every_sight(SMALL, plan) if sight[0][1] == ()]
        for length in (1, 2, 3, 4):
            for watch in itertools.product(sights, repeat=length):
                self.assertEqual(sources_after(SMALL, plan, watch),
                                 self.by_search(SMALL, plan, watch))

    def test_no_argument_changes(self):
        case, plan = list(PAIR), list(SAFE)
        watch = ((((-1, -1), ()), (0,)), (((-1, -1), ()), (1,)))
        arguments = [tuple(case), tuple(plan), watch]
        before = copy.deepcopy(arguments)
        first = sources_after(*arguments)
        self.assertEqual(arguments, before)
        second = list(first)
        first.clear()
        self.assertEqual(sources_after(*arguments), second)


class Time(unittest.TestCase):
    def test_the_largest_case(self):
        case, plan = LARGE
        standings, taken = walk(case, plan, 200, 5)
        path = tuple(taken)
        self.assertIs(soon(self, is_path, case, plan, path), True)
        watch = soon(self, watch_of, case, plan, path)
        self.assertIn(standings[-1][0], soon(self, sources_after, case, plan, watch))
        possible = soon(self, possible_sources, case, plan, watch[-1])
        self.assertIn(standings[-1][0], possible)
        self.assertIsNotNone(soon(self, sure_rows, case, plan, watch[-1]))
        for source in model.every_source(case):
            found = soon(self, find_path, case, plan, watch[-1], source)
            self.assertIs(found is not None, source in possible)

    def test_late_is_2_with_all_sent(self):
        case = (1, 2, 2, ((0, 1),), True)
        plan = (1, 2, 'all', 'all', True, True, True, 'cut')
        standings, _ = walk(case, plan, 300, 8)
        watch = tuple(map(sight_of, standings))
        self.assertIn(standings[-1][0], soon(self, sources_after, case, plan, watch))


if __name__ == '__main__':
    unittest.main()
