"""Tests of somerows.feeds: points [2], [3] and [17]."""

import copy
import inspect
import itertools
import random
import unittest

import model
from feedmodel import FeedModel, make, random_run, some_call, told_by
from feedruns import CASES, followed, runs
from samples import BARE, JOINT, PAIR, SAFE, SMALL, STRANGE_VALUES
from samples import differing, listed, other_kinds, plan_with
from somerows.errors import InvalidCommit, LaneFull, NeverAnew, NothingThere, SomerowsError
from somerows.feeds import Feed
from somerows.offers import safe_words
from somerows.standings import after, beginning, is_standing, steps
from somerows.tables import find_table
from timing import soon

UP, DOWN = (('parent', 0, 1),), (('parent', 0, 0),)
METHODS = ['commit(self, changes)', 'deliver(self, lane)', 'begin_anew(self)', 'source(self)',
           'copy(self)', 'under_way(self)', 'standing_of(self, k)', 'fault_words(self)',
           'undo(self)', '__len__(self)', '__eq__(self, other)']

class Examples(unittest.TestCase):
    def test_the_first_example_of_the_document(self):
        feed = Feed(SMALL, SAFE, 2)
        self.assertEqual(
            [feed.commit((('parent', 0, 1),)), feed.under_way(), feed.deliver(0),
             feed.commit((('child', 1, (0, 0)),)), feed.under_way(), len(feed)],
            [None, ((((('parent', 0, 1),), (('parent', 0, 1, ()),)),),), None, None,
             ((((('child', 1, (0, 0)),), (('child', 1, (0, 0), 1),)),),), 1])
        self.assertEqual(
            [feed.standing_of(0)[2], feed.standing_of(1)[2], feed.source(), feed.copy(),
             feed.fault_words()],
            [((),), (((('child', (0, 0), 1),),),), ((1,), ((), (0, 0))), ((1,), ((), ())),
             ((), ())])
        with self.assertRaises(LaneFull) as caught:
            feed.commit((('parent', 0, 0),))
        self.assertEqual(caught.exception.lane, 0)

    def test_the_second_example_of_the_document(self):
        feed = Feed(SMALL, SAFE, 1)
        self.assertEqual(
            [feed.commit((('parent', 0, 1),)), feed.undo(), feed.undo(),
             feed == Feed(SMALL, SAFE, 1)],
            [None, ('commit', (('parent', 0, 1),)), None, True])
        with self.assertRaises(NothingThere) as caught:
            feed.deliver(0)
        self.assertEqual(caught.exception.lane, 0)


class Interface(unittest.TestCase):
    def test_each_method_is_defined_in_the_class_itself(self):
        for entry in METHODS:
            name = entry.partition('(')[0]
            self.assertIn(name, vars(Feed))
            self.assertEqual(name + str(inspect.signature(vars(Feed)[name])), entry)
        self.assertEqual(str(inspect.signature(Feed)), '(case, plan, c)')
        self.assertEqual((Feed.__name__, Feed.__module__), ('Feed', 'somerows.feeds'))

    def test_the_beginning(self):
        for case in CASES:
            for plan, c in itertools.product((SAFE, BARE), (1, 2, 3, 4)):
                feed = Feed(case, plan, c)
                absent = (-1,) * case[0], ((),) * c
                self.assertEqual((feed.source(), feed.copy()), (absent, absent))
                self.assertEqual(feed.under_way(), ((),) * plan[0])
                self.assertEqual((len(feed), feed.fault_words()), (0, ((),) * c))
                for k in range(c):
                    self.assertEqual(feed.standing_of(k), beginning(case, plan))
                self.assertIsNone(feed.undo())


class Runs(unittest.TestCase):
    def test_against_the_second_working_out(self):
        lengths, words = set(), set()
        for case, plan, c, seed in runs():
            chance = random.Random(seed)
            feed, other = Feed(case, plan, c), FeedModel(case, plan, c)
            for _ in range(30):
                call = some_call(other, chance)
                self.assertIsNone(make(feed, call))
                make(other, call)
                self.assertEqual(told_by(feed, c), told_by(other, c))
                self.assertEqual(len(feed), sum(map(len, other.lanes)))
                lengths.add(len(feed))
                words |= {word for own in feed.fault_words() for word in own}
        self.assertEqual(lengths, {0, 1, 2, 3, 4})
        self.assertEqual(words, {'blinks', 'dangles', 'lacks', 'left'})

    def test_each_child_by_a_history_of_its_own(self):
        for case, plan, c, seed in runs()[::2]:
            other = random_run(case, plan, c, 25, seed)
            feed = followed(case, plan, c, [call for call, _ in other.log])
            for k in range(c):
                standing = beginning(case, plan)
                for step in other.steps[k]:
                    self.assertIn(step, steps(case, plan, standing))
                    standing = after(case, plan, standing, step)
                self.assertEqual(feed.standing_of(k), standing)

    def test_standings_and_faults_are_those_of_one_child(self):
        seen = set()
        for number, case in enumerate((SMALL, JOINT, PAIR, (1, 2, 2, ((0, 1), (1, 0)), False))):
            for plan in (SAFE, BARE, plan_with(SAFE, lanes=2, tells_value=False, anew='kept'),
                         plan_with(SAFE, tells_children=False, anew='cut')):
                table = dict.fromkeys(find_table(case, plan, ()))
                safe = set(safe_words(case, plan))
                for c in (2, 4):
                    other = random_run(case, plan, c, 40, number)
                    feed = Feed(case, plan, c)
                    for call, _ in other.log:
                        make(feed, call)
                        for k, own in enumerate(feed.fault_words()):
                            self.assertIn(feed.standing_of(k), table)
                            self.assertFalse(safe & set(own))
                            seen |= set(own)
        self.assertTrue({'dangles', 'lacks', 'left'} <= seen, seen)

    def test_standings_are_standings(self):
        for case, plan, c, seed in runs()[::3]:
            other = random_run(case, plan, c, 15, seed)
            feed = followed(case, plan, c, [call for call, _ in other.log])
            for k in range(c):
                self.assertIs(is_standing(case, plan, feed.standing_of(k)), True)


class Messages(unittest.TestCase):
    def feed(self, plan, *commits, case=JOINT, c=3):
        """Return a feed after the commits, all of them delivered."""
        feed = Feed(case, plan, c)
        for changes in commits:
            feed.commit(changes)
            for lane, places in enumerate(feed.under_way()):
                if places:
                    feed.deliver(lane)
        self.assertEqual(len(feed), 0)
        return feed

    def test_all_children_of_the_parent_are_told(self):
        case = (2, 2, 2, ((0, 1), (1, 0)), False)
        feed = self.feed(SAFE, UP, (('parent', 1, 0),), (('child', 2, (0, 0)),),
                         (('child', 0, (1, 0)),), (('child', 1, (1, 1)),), case=case)
        feed.commit(DOWN)
        self.assertEqual(feed.under_way(),
                         (((DOWN, (('parent', 0, 0, ((0, 1), (2, 0))),)),),))
        self.assertEqual(feed.standing_of(0)[2], (((('parent', 0, 0, (1,)),),),))
        self.assertEqual(feed.standing_of(1)[2], (((('parent', 0, 0, ()),),),))
        self.assertEqual(feed.standing_of(2)[2], (((('parent', 0, 0, (0,)),),),))
        feed.deliver(0)
        self.assertEqual(feed.copy(), ((0, 0), ((1, 0), (1, 1), ())))

    def test_a_joint_commit_with_one_lane(self):
        feed = Feed(JOINT, SAFE, 2)
        both = (('parent', 0, 1), ('child', 1, (0, 0)))
        feed.commit(both)
        message = (('parent', 0, 1, ((1, 0),)), ('child', 1, (0, 0), 1))
        self.assertEqual(feed.under_way(), (((both, message),),))
        self.assertEqual(len(feed), 1)
        self.assertEqual(feed.standing_of(0)[2], (((('parent', 0, 1, ()),),),))
        self.assertEqual(feed.standing_of(1)[2],
                         (((('parent', 0, 1, (0,)), ('child', (0, 0), 1)),),))

    def test_a_joint_commit_with_two_lanes(self):
        feed = Feed(JOINT, BARE, 2)
        both = (('parent', 0, 1), ('child', 1, (0, 0)))
        feed.commit(both)
        parent, child = (('parent', 0, 1, ()),), (('child', 1, (0, 0), -1),)
        self.assertEqual(feed.under_way(), (((both, parent),), ((both, child),)))
        self.assertEqual(len(feed), 2)
        # The place in the lane of the child is not own to the other child.
        self.assertEqual(feed.standing_of(0)[2], ((parent,), ()))
        self.assertEqual(feed.standing_of(1)[2], ((parent,), ((('child', (0, 0), -1),),)))
        feed.deliver(1)
        self.assertEqual(feed.standing_of(0)[2], ((parent,), ()))
        self.assertEqual(feed.standing_of(1)[2], ((parent,), ()))

    def test_a_change_that_is_not_sent_takes_a_place(self):
        plan = plan_with(SAFE, children='now', parents='now')
        feed = Feed(SMALL, plan, 2)
        feed.commit(DOWN)
        self.assertEqual((feed.under_way(), len(feed)), ((((DOWN, ()),),), 1))
        with self.assertRaises(LaneFull):
            feed.commit(UP)
        feed.deliver(0)
        self.assertEqual(feed.copy(), ((-1,), ((), ())))

    def test_whether_a_childs_change_is_sent_goes_by_this_child(self):
        plan = plan_with(SAFE, children='either')
        feed = self.feed(plan, UP, (('child', 0, (0, 0)),))
        feed.commit((('child', 0, ()),))
        self.assertEqual(feed.under_way()[0][0][1], (('child', 0, (), -1),))
        feed.undo()
        feed = self.feed(plan, DOWN, (('child', 1, (0, 0)),))
        feed.commit((('child', 1, ()),))
        self.assertEqual(feed.under_way()[0][0][1], ())

    def test_looking_again_looks_at_all_children(self):
        plan = plan_with(SAFE, tells_children=False)
        feed = self.feed(plan, UP, (('child', 0, (0, 0)),), (('child', 2, (0, 0)),))
        self.assertEqual(feed.copy(), ((1,), ((0, 0), (), (0, 0))))
        feed.commit(DOWN)
        feed.deliver(0)
        self.assertEqual(feed.copy(), ((-1,), ((), (), ())))
        feed.undo()
        self.assertEqual(feed.copy(), ((1,), ((0, 0), (), (0, 0))))

    def test_the_mark_goes_by_the_steps_of_the_child_alone(self):
        plan = plan_with(BARE, looks_again=True, late=2, anew='kept')
        feed = Feed(SMALL, plan, 2)
        # The parent's old message takes child 0 away, although it passes.
        for call in (('commit', UP), ('deliver', 0), ('commit', DOWN), ('commit', UP),
                     ('commit', (('child', 0, (0, 0)),)), ('anew',)):
            make(feed, call)
        self.assertEqual([feed.standing_of(k)[3] for k in (0, 1)], [1, 0])
        feed.deliver(0)
        self.assertEqual([feed.standing_of(k)[3] for k in (0, 1)], [2, 0])
        self.assertEqual(feed.fault_words(), (('blinks',), ()))
        # What child 1 does is no step of child 0.
        feed.commit((('child', 1, (0, 0)),))
        self.assertEqual(feed.fault_words()[0], ('blinks',))
        feed.deliver(1)
        self.assertEqual(feed.copy(), ((-1,), ((), ())))
        self.assertEqual(feed.fault_words()[0], ())
        feed.undo()
        self.assertEqual(feed.standing_of(0)[3], 2)
        # Its own deliveries are: the parent's and its own place.
        feed.deliver(0)
        self.assertEqual(feed.standing_of(0)[3], 0)

    def test_a_delivery_that_is_not_own(self):
        plan = plan_with(BARE, looks_again=True, late=2, anew='kept')
        feed = Feed(SMALL, plan, 2)
        for call in (('commit', UP), ('deliver', 0), ('commit', (('child', 1, (0, 0)),)),
                     ('commit', DOWN), ('commit', UP), ('commit', (('child', 0, (0, 0)),)),
                     ('anew',), ('deliver', 0)):
            make(feed, call)
        self.assertEqual([feed.standing_of(k)[3] for k in (0, 1)], [2, 2])
        # The first place in the lane is child 1's.
        feed.deliver(1)
        self.assertEqual([feed.standing_of(k)[3] for k in (0, 1)], [2, 0])
        feed.deliver(1)
        self.assertEqual([feed.standing_of(k)[3] for k in (0, 1)], [0, 0])


class Errors(unittest.TestCase):
    def assert_raises(self, feed, c, error, held, call, *arguments):
        """Check that the call raises the error and changes nothing that the feed tells."""
        before, twin = told_by(feed, c), copy.deepcopy(feed)
        kept = copy.deepcopy(arguments)
        with self.assertRaises(SomerowsError) as caught:
            getattr(feed, call)(*arguments)
        self.assertIs(type(caught.exception), error)
        self.assertEqual(repr(vars(caught.exception)), repr(held))
        self.assertEqual(repr(arguments), repr(kept))
        self.assertEqual(told_by(feed, c), before)
        self.assertTrue(feed == twin)

    def feeds(self):
        """Return (feed, model) with some calls behind them."""
        found = []
        for case, plan, c, seed in runs()[::5]:
            other = random_run(case, plan, c, 12, seed)
            found.append((followed(case, plan, c, [call for call, _ in other.log]), other))
        return found

    def check_commit(self, feed, other, changes, right):
        """Check what the commit of any value does; right has the texts of all commits."""
        c = len(other.children)
        if repr(changes) not in right:
            self.assert_raises(feed, c, InvalidCommit, {'changes': changes}, 'commit', changes)
            return InvalidCommit
        if other.full_lane(changes) is not None:
            lane = {'lane': other.full_lane(changes)}
            self.assert_raises(feed, c, LaneFull, lane, 'commit', changes)
            return LaneFull
        self.assertIsNone(feed.commit(changes))
        self.assertEqual(feed.undo(), ('commit', changes))
        return None

    def test_all_commits_and_what_differs_from_them(self):
        found = []
        for feed, other in self.feeds():
            commits = other.commits()
            right = set(map(repr, commits))
            for changes in commits[::1 + len(commits) // 12]:
                found.append(self.check_commit(feed, other, changes, right))
                for value in differing(changes) + other_kinds(changes):
                    found.append(self.check_commit(feed, other, value, right))
                for value in (list(changes), listed(changes), changes[0], (changes,),
                              changes + changes, dict.fromkeys(changes)):
                    self.check_commit(feed, other, value, right)
        self.assertEqual(set(found), {None, InvalidCommit, LaneFull})

    def test_all_changes_and_pairs_of_them(self):
        found = []
        for feed, other in self.feeds()[::2]:
            n, c = other.case.n, len(other.children)
            parents = [('parent', p, state) for p in range(-1, n + 1)
                       for state in range(-2, other.case.values + 1)]
            children = [('child', k, state) for k in range(-1, c + 1)
                        for state in [(), (0,), (0, 0, 0)] + list(itertools.product(
                            range(-1, other.case.kinds + 1), range(-1, n + 1)))]
            right = set(map(repr, other.commits()))
            chance = random.Random(c)
            tried = [(change,) for change in parents + children] + [()]
            tried += [(chance.choice(first), chance.choice(second)) for _ in range(60)
                      for first, second in itertools.product((parents, children), repeat=2)]
            for value in tried:
                found.append(self.check_commit(feed, other, value, right))
        self.assertEqual(set(found), {None, InvalidCommit, LaneFull})

    def test_commits_of_other_values(self):
        for feed, other in self.feeds()[::6] + [(Feed(SMALL, SAFE, 1), FeedModel(SMALL, SAFE, 1))]:
            c = len(other.children)
            for value in STRANGE_VALUES + [True, 0, 'commit', ('commit', UP), beginning(SMALL, SAFE)]:
                self.assert_raises(feed, c, InvalidCommit, {'changes': value}, 'commit', value)
            for value in STRANGE_VALUES:
                for changes in ((value,), (('parent', 0, value),), (('parent', value, 1),),
                                (('child', value, (0, 0)),), (('child', 0, (value, 0)),),
                                (('child', 0, (0, value)),), ((value, 0, (0,)),),
                                UP + (value,), (value,) + UP):
                    self.assert_raises(feed, c, InvalidCommit, {'changes': changes}, 'commit',
                                       changes)

    def test_commits_that_are_none(self):
        feed = Feed(JOINT, SAFE, 2)
        for call in (('commit', UP), ('deliver', 0), ('commit', (('child', 0, (0, 0)),)),
                     ('deliver', 0)):
            make(feed, call)
        for changes in (
                # They change nothing.
                UP, (('child', 0, (0, 0)),), (('child', 1, ()),),
                (('parent', 0, 0), ('child', 0, (0, 0))), (('parent', 0, 1), ('child', 0, ())),
                # They break a reference.
                (('parent', 0, -1),), (('parent', 0, -1), ('child', 1, (0, 0))),
                # Two changes in another order, of one word, or three.
                (('child', 0, ()), ('parent', 0, 0)), DOWN + DOWN, DOWN + (('parent', 0, -1),),
                (('child', 0, ()), ('child', 1, (0, 0))),
                DOWN + (('child', 0, ()), ('child', 1, (0, 0))),
                # Truths for numbers.
                (('parent', False, 0),), (('parent', 0, False),), (('child', True, (0, 0)),),
                (('child', 1, (False, 0)),), (('child', 1, (0, False)),),
                # A change of one child as it is without others.
                (('child', ()),), (('child', (0, 0)),)):
            self.assert_raises(feed, 2, InvalidCommit, {'changes': changes}, 'commit', changes)
        for changes in (DOWN, (('child', 0, ()),), (('parent', 0, -1), ('child', 0, ())),
                        (('parent', 0, 0), ('child', 1, (0, 0)))):
            feed.commit(changes)
            self.assertEqual(feed.undo(), ('commit', changes))

    def test_two_changes_at_once_only_in_joint_cases(self):
        both = UP + (('child', 0, (0, 0)),)
        self.assert_raises(Feed(SMALL, SAFE, 1), 1, InvalidCommit, {'changes': both}, 'commit', both)
        self.assertIsNone(Feed(JOINT, SAFE, 1).commit(both))

    def test_full_lanes(self):
        for late in (1, 2):
            feed = Feed(JOINT, plan_with(BARE, late=late), 1)
            feed.commit(UP)
            feed.deliver(0)
            for changes in [(('child', 0, (0, 0)),), (('child', 0, ()),)][:late]:
                feed.commit(changes)
            child = (('child', 0, () if late == 1 else (0, 0)),)
            self.assert_raises(feed, 1, LaneFull, {'lane': 1}, 'commit', child)
            self.assert_raises(feed, 1, LaneFull, {'lane': 1}, 'commit', DOWN + child)
            for changes in [DOWN, UP][:late]:
                feed.commit(changes)
            parent = DOWN if late == 2 else UP
            # Both lanes are full: the least one is told.
            self.assert_raises(feed, 1, LaneFull, {'lane': 0}, 'commit', parent)
            self.assert_raises(feed, 1, LaneFull, {'lane': 0}, 'commit', parent + child)
            self.assert_raises(feed, 1, LaneFull, {'lane': 1}, 'commit', child)
            self.assertEqual(len(feed), 2 * late)
            # What is no commit is so also at full lanes.
            for changes in ((), parent[::-1] * 2, child + parent, None):
                self.assert_raises(feed, 1, InvalidCommit, {'changes': changes}, 'commit', changes)

    def test_lanes_that_are_none_or_empty(self):
        for feed, other in self.feeds()[::3]:
            for lane in (-1, 2, 3, 10 ** 59, True, False, None, '0', (), (0,), [0], {}, 'deliver'):
                self.assert_raises(feed, len(other.children), NothingThere, {'lane': lane},
                                   'deliver', lane)
            for lane in (0, 1):
                if lane >= len(other.lanes) or not other.lanes[lane]:
                    self.assert_raises(feed, len(other.children), NothingThere, {'lane': lane},
                                       'deliver', lane)
                else:
                    self.assertIsNone(feed.deliver(lane))
                    self.assertEqual(feed.undo(), ('deliver', lane))

    def test_truths_for_lanes_that_are_not_empty(self):
        feed = Feed(JOINT, BARE, 1)
        feed.commit(UP + (('child', 0, (0, 0)),))
        for lane in (False, True):
            self.assert_raises(feed, 1, NothingThere, {'lane': lane}, 'deliver', lane)
        for value in STRANGE_VALUES:
            self.assert_raises(feed, 1, NothingThere, {'lane': value}, 'deliver', value)

    def test_beginning_anew(self):
        for feed, other in self.feeds():
            if other.plan.anew == 'never':
                self.assert_raises(feed, len(other.children), NeverAnew, {}, 'begin_anew')
            else:
                self.assertIsNone(feed.begin_anew())
                self.assertEqual(feed.undo(), ('anew',))

    def test_errors_are_not_taken_back(self):
        feed = Feed(SMALL, SAFE, 1)
        feed.commit(UP)
        for call, argument in (('commit', None), ('commit', DOWN), ('deliver', 1)):
            with self.assertRaises(SomerowsError):
                getattr(feed, call)(argument)
        with self.assertRaises(NeverAnew):
            feed.begin_anew()
        self.assertEqual([feed.undo(), feed.undo()], [('commit', UP), None])
        self.assertTrue(feed == Feed(SMALL, SAFE, 1))


class Undo(unittest.TestCase):
    def test_back_to_the_beginning_and_then_none(self):
        for case, plan, c, seed in runs()[::3]:
            other = random_run(case, plan, c, 20, seed)
            feed, told = Feed(case, plan, c), []
            for call, _ in other.log:
                told.append(told_by(feed, c))
                make(feed, call)
            for call, _ in reversed(other.log):
                taken = feed.undo()
                self.assertEqual(repr(taken), repr(call))
                self.assertEqual(told_by(feed, c), told.pop())
            self.assertEqual([feed.undo(), feed.undo()], [None, None])
            self.assertTrue(feed == Feed(case, plan, c))
            self.assertEqual(len(feed), 0)

    def test_calls_and_undos_in_turn(self):
        for case, plan, c, seed in runs()[1::6]:
            chance = random.Random(seed)
            feed, other = Feed(case, plan, c), FeedModel(case, plan, c)
            for _ in range(40):
                if chance.random() < 0.4:
                    self.assertEqual(feed.undo(), other.undo())
                else:
                    call = some_call(other, chance)
                    make(feed, call)
                    make(other, call)
                self.assertEqual(told_by(feed, c), told_by(other, c))

    def test_an_anew_that_changes_nothing_is_taken_back_too(self):
        feed = Feed(SMALL, plan_with(SAFE, anew='kept'), 1)
        feed.begin_anew()
        feed.begin_anew()
        self.assertEqual([feed.undo(), feed.undo(), feed.undo()], [('anew',), ('anew',), None])


class Equality(unittest.TestCase):
    def assert_equal(self, first, second, right):
        self.assertIs(first == second, right)
        self.assertIs(second == first, right)
        self.assertIs(first != second, not right)

    def test_the_same_calls(self):
        for case, plan, c, seed in runs()[::4]:
            other = random_run(case, plan, c, 15, seed)
            calls = [call for call, _ in other.log]
            first, second = followed(case, plan, c, calls), Feed(case, plan, c)
            self.assert_equal(first, first, True)
            for call in calls:
                make(second, call)
            self.assert_equal(first, second, True)

    def test_other_calls(self):
        found = []
        for case, plan, c, seed in runs()[::4]:
            other, feed = random_run(case, plan, c, 20, seed), Feed(case, plan, c)
            told, feeds = [], []
            for call, _ in other.log:
                make(feed, call)
                feeds.append(copy.deepcopy(feed))
                told.append((feed.source(), feed.copy(), feed.under_way(),
                             [feed.standing_of(k)[3] for k in range(c)]))
            for one, two in itertools.combinations(range(len(told)), 2):
                found.append(told[one] == told[two])
                self.assert_equal(feeds[one], feeds[two], found[-1])
        self.assertEqual(set(found), {False, True})

    def test_what_came_before_does_not_count(self):
        feed = Feed(SMALL, SAFE, 1)
        for call in (('commit', UP), ('deliver', 0), ('commit', DOWN), ('deliver', 0),
                     ('commit', (('parent', 0, -1),)), ('deliver', 0)):
            make(feed, call)
        self.assert_equal(feed, Feed(SMALL, SAFE, 1), True)
        self.assertEqual(feed.undo(), ('deliver', 0))
        self.assert_equal(feed, Feed(SMALL, SAFE, 1), False)

    def test_another_case_plan_or_number_of_children(self):
        feed = Feed(SMALL, SAFE, 2)
        self.assert_equal(feed, Feed(SMALL, SAFE, 2), True)
        for case in (JOINT, PAIR, (1, 2, 1, (), False), (1, 3, 1, ((0, 1),), False)):
            self.assert_equal(feed, Feed(case, SAFE, 2), False)
        for plan in (BARE, plan_with(SAFE, late=2), plan_with(SAFE, anew='cut'),
                     plan_with(SAFE, looks_again=False)):
            self.assert_equal(feed, Feed(SMALL, plan, 2), False)
        for c in (1, 3, 4):
            self.assert_equal(feed, Feed(SMALL, SAFE, c), False)

    def test_a_mark_that_alone_differs(self):
        # The child comes in before and after it passes, and is there in the end.
        plan = plan_with(BARE, anew='kept')
        came = [('commit', UP), ('deliver', 0), ('commit', (('child', 0, (0, 0)),)), ('deliver', 1)]
        kept = [('commit', DOWN), ('deliver', 0), ('commit', UP), ('deliver', 0)]
        first, second = followed(SMALL, plan, 1, came), followed(SMALL, plan, 1, came + kept)
        self.assertEqual(first.source(), second.source())
        self.assertEqual(first.copy(), second.copy())
        self.assertEqual(first.under_way(), second.under_way())
        self.assertEqual((first.standing_of(0)[3], second.standing_of(0)[3]), (1, 0))
        self.assert_equal(first, second, False)

    def test_what_is_under_way_alone_differs(self):
        first = followed(SMALL, plan_with(SAFE, late=2), 1, [('commit', DOWN), ('deliver', 0)])
        second = followed(SMALL, plan_with(SAFE, late=2), 1, [('commit', DOWN)])
        self.assertEqual((first.source(), first.copy()), (second.source(), second.copy()))
        self.assert_equal(first, second, False)
        # The messages are alike, the changes that gave them are not.
        plan = plan_with(SAFE, children='now', late=2)
        case = (1, 2, 2, ((0, 1),), False)
        here, other, gone = [('commit', (('child', 0, state),)) for state in ((0, 0), (1, 0), ())]
        start = [('commit', DOWN), ('deliver', 0)]
        one = followed(case, plan, 1, start + [other, here])
        two = followed(case, plan, 1, start + [here, ('deliver', 0), gone, here])
        self.assertEqual(one.source(), two.source())
        self.assertEqual(one.standing_of(0), two.standing_of(0))
        self.assert_equal(one, two, False)

    def test_values_that_are_no_feeds(self):
        feed = Feed(SMALL, SAFE, 1)
        for value in STRANGE_VALUES + [True, 0, Feed, SMALL, (SMALL, SAFE, 1), [feed],
                                       beginning(SMALL, SAFE),
                                       FeedModel(SMALL, SAFE, 1), object()]:
            self.assert_equal(feed, value, False)


class Sharing(unittest.TestCase):
    def test_arguments_and_results_are_not_kept_or_shared(self):
        feed = Feed(SMALL, SAFE, 2)
        changes = [['parent', 0, 1]]
        with self.assertRaises(InvalidCommit):
            feed.commit(changes)
        changes[0][2] = 0
        self.assertTrue(feed == Feed(SMALL, SAFE, 2))
        feed.commit(UP)
        # All that is told is made of tuples alone, which no caller can change.
        pending = list(told_by(feed, 2)[:4]) + told_by(feed, 2)[4] + [feed.undo()]
        for part in pending:
            self.assertIn(type(part), (tuple, int, str))
            pending.extend(part if isinstance(part, tuple) else ())

    def test_two_feeds_share_nothing(self):
        first, second = Feed(SMALL, SAFE, 2), Feed(SMALL, SAFE, 2)
        first.commit(UP)
        self.assertEqual(told_by(second, 2), told_by(Feed(SMALL, SAFE, 2), 2))
        self.assertIsNone(second.undo())

    def test_telling_changes_nothing(self):
        feed = followed(SMALL, SAFE, 2, [('commit', UP)])
        twin = followed(SMALL, SAFE, 2, [('commit', UP)])
        for _ in range(3):
            told_by(feed, 2)
            len(feed)
            self.assertTrue(feed == twin)
        self.assertEqual([feed.undo(), feed.undo()], [('commit', UP), None])


class Time(unittest.TestCase):
    def test_some_hundred_calls_and_their_taking_back(self):
        def run(case, plan, calls):
            feed = Feed(case, plan, 4)
            for call in calls:
                make(feed, call)
                told_by(feed, 4)
                len(feed)
            while feed.undo() is not None:
                told_by(feed, 4)
            return feed

        case = (3, 3, 2, ((0, 0), (0, 2), (1, 1)), True)
        for plan in (plan_with(SAFE, late=2), plan_with(BARE, late=2, anew='kept')):
            other = random_run(case, plan, 4, 150, 3)
            calls = [call for call, _ in other.log] * 1
            self.assertEqual(model.Plan(*plan).late, 2)
            self.assertTrue(soon(self, run, case, plan, calls) == Feed(case, plan, 4))


if __name__ == '__main__':
    unittest.main()
