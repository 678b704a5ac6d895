"""Tests of somerows.feedlogs: points [2], [3] and [18]."""

import copy
import random
import unittest

from feedmodel import FeedModel, make, random_run, some_call
from feedruns import followed, runs
from samples import BARE, JOINT, PAIR, SAFE, SMALL, STRANGE_VALUES
from samples import differing, listed, other_kinds, plan_with, with_part
from somerows.errors import SomerowsError
from somerows.feedlogs import feed_log, first_feed_fault, history_of, is_feed_log
from somerows.feeds import Feed
from somerows.standings import after, beginning, steps
from somerows.tables import find_history, is_history
from timing import soon

UP, DOWN = (('parent', 0, 1),), (('parent', 0, 0),)


def first_fault_by_model(case, plan, c, value):
    """Return the number of the first entry that is not right, by the second working out."""
    feed = FeedModel(case, plan, c)
    for number, entry in enumerate(value):
        if not (type(entry) is tuple and len(entry) == 2):
            return number
        # Python takes 1 and True as equal, their texts tell them apart.
        calls = {repr(call): call for call in feed.calls()}
        if repr(entry[0]) not in calls:
            return number
        make(feed, calls[repr(entry[0])])
        if repr(entry[1]) != repr(feed.fault_words()):
            return number
    return None


class Examples(unittest.TestCase):
    def test_the_example_of_the_document(self):
        feed = Feed(SMALL, BARE, 2)
        self.assertEqual(
            [feed.commit((('parent', 0, 1),)), feed.commit((('child', 1, (0, 0)),)),
             feed.deliver(1), feed.deliver(0), feed_log(feed)[-1]],
            [None, None, None, None, (('deliver', 0), ((), ('lacks',)))])


class FeedLog(unittest.TestCase):
    def test_after_calls(self):
        for case, plan, c, seed in runs()[::3]:
            other = random_run(case, plan, c, 20, seed)
            feed = Feed(case, plan, c)
            self.assertEqual(feed_log(feed), [])
            for number, (call, _) in enumerate(other.log):
                make(feed, call)
                log = feed_log(feed)
                self.assertIs(type(log), list)
                self.assertEqual(repr(log), repr(other.log[:number + 1]))

    def test_after_calls_taken_back_and_refused(self):
        for case, plan, c, seed in runs()[1::4]:
            chance = random.Random(seed)
            feed, other = Feed(case, plan, c), FeedModel(case, plan, c)
            for _ in range(30):
                if chance.random() < 0.3:
                    self.assertEqual(feed.undo(), other.undo())
                else:
                    call = some_call(other, chance)
                    make(feed, call)
                    make(other, call)
                for refused in (('commit', None), ('commit', ()), ('deliver', 2)):
                    with self.assertRaises(SomerowsError):
                        make(feed, refused)
                self.assertEqual(feed_log(feed), other.log)
                self.assertIs(is_feed_log(case, plan, c, feed_log(feed)), True)

    def test_a_new_list_each_time(self):
        feed = followed(SMALL, SAFE, 1, [('commit', UP), ('deliver', 0)])
        first, second = feed_log(feed), feed_log(feed)
        self.assertIsNot(first, second)
        first.clear()
        second[0] = None
        self.assertEqual(feed_log(feed), [(('commit', UP), ((),)), (('deliver', 0), ((),))])
        self.assertEqual([feed.undo(), feed.undo(), feed.undo()],
                         [('deliver', 0), ('commit', UP), None])

    def test_equal_feeds_may_have_other_logs(self):
        calls = [('commit', UP), ('deliver', 0), ('commit', (('parent', 0, -1),)), ('deliver', 0)]
        feed = followed(SMALL, SAFE, 1, calls)
        self.assertTrue(feed == Feed(SMALL, SAFE, 1))
        self.assertEqual([call for call, _ in feed_log(feed)], calls)


class Logs(unittest.TestCase):
    @classmethod
    def setUpClass(cls):
        # (case, plan, c, log)
        cls.told = []
        for case, plan, c, seed in runs()[::4]:
            cls.told.append((case, plan, c, random_run(case, plan, c, 9, seed).log))

    def check(self, case, plan, c, value):
        """Return the first fault of the list, which is also so by the second working out."""
        found = first_feed_fault(case, plan, c, value)
        self.assertEqual(found, first_fault_by_model(case, plan, c, value), value)
        self.assertIs(is_feed_log(case, plan, c, value), found is None)
        return found

    def test_logs(self):
        for case, plan, c, log in self.told:
            for end in range(len(log) + 1):
                self.assertIsNone(self.check(case, plan, c, log[:end]))
            self.assertIsNone(first_feed_fault(case, plan, c, feed_log(
                followed(case, plan, c, [call for call, _ in log]))))

    def test_an_entry_left_out_twice_exchanged_or_put_in(self):
        found = []
        for case, plan, c, log in self.told:
            for at in range(len(log)):
                for value in (log[:at] + log[at + 1:], log[:at + 1] + log[at:],
                              log[:at] + log[at:at + 2][::-1] + log[at + 2:], log[at:],
                              log + log[at:at + 1]):
                    found.append(self.check(case, plan, c, value))
                for put in (log[-1], log[0], (('anew',), ((),) * c), (('deliver', 0), ((),) * c)):
                    found.append(self.check(case, plan, c, log[:at] + [put] + log[at:]))
        self.assertTrue({None, 0, 1, 5, 8} <= set(found), set(found))

    def test_words_of_another_entry(self):
        found = []
        for case, plan, c, log in self.told:
            for at, (call, words) in enumerate(log):
                others = {other for _, other in log} | {((),) * (c - 1), ((),) * (c + 1),
                                                        (('lacks',),) * c, (('left', 'lacks'),) * c}
                for other in others:
                    value = log[:at] + [(call, other)] + log[at + 1:]
                    found.append(self.check(case, plan, c, value))
                    self.assertEqual(found[-1], None if other == words else at)
        self.assertIn(None, found)
        self.assertIn(8, found)

    def test_parts_changed_at_any_depth(self):
        for case, plan, c, log in self.told[::2]:
            for at in range(0, len(log), 2):
                for entry in differing(log[at]) + other_kinds(log[at]):
                    self.check(case, plan, c, log[:at] + [entry] + log[at + 1:])
                for entry in (list(log[at]), log[at][0], log[at][1], (log[at],), log[at][::-1],
                              listed(log[at]), [log[at]]):
                    value = log[:at] + [entry] + log[at + 1:]
                    self.assertEqual(self.check(case, plan, c, value), at)

    def test_calls_that_the_feed_may_not_make(self):
        log = [(('commit', UP), ((), ())), (('deliver', 0), ((), ()))]
        words = ((), ())
        self.assertIsNone(first_feed_fault(SMALL, SAFE, 2, log))
        for call in (('commit', UP), ('commit', ()), ('commit', None), ('commit',), ('commit', DOWN, 0),
                     ('deliver', 0), ('deliver', 1), ('deliver', False), ('deliver',), ('anew',),
                     ('anew', 0), ('anew', ()), (), 'anew', 'deliver', ['anew'], ('undo',), (None,),
                     ('Commit', DOWN), ('', DOWN), (('commit',), DOWN), None, 0, True,
                     ('commit', (('child', ()),)), ('commit', (('child', (0, 0)),)),
                     ('commit', (('child', 2, (0, 0)),)), ('commit', (('child', True, (0, 0)),))):
            self.assertEqual(self.check(SMALL, SAFE, 2, log + [(call, words)]), 2)
        for call in (('commit', DOWN), ('commit', (('child', 1, (0, 0)),))):
            self.assertIsNone(self.check(SMALL, SAFE, 2, log + [(call, words)]))
        plan = plan_with(SAFE, anew='cut')
        self.assertIsNone(self.check(SMALL, plan, 2, log + [(('anew',), words)]))
        # A full lane.
        self.assertEqual(self.check(SMALL, SAFE, 2, log[:1] + [(('commit', DOWN), words)]), 1)

    def test_truths_for_numbers(self):
        feed = Feed(JOINT, BARE, 1)
        feed.commit(UP + (('child', 0, (0, 0)),))
        log = feed_log(feed)
        for lane in (False, True):
            value = log + [(('deliver', lane), ((),))]
            self.assertEqual(self.check(JOINT, BARE, 1, value), 1)

    def test_first_feed_fault_at_lists_of_any_values(self):
        for case, plan, c, log in self.told[::3]:
            for strange in STRANGE_VALUES:
                for at in (0, 3, len(log)):
                    value = log[:at] + [strange] + log[at:]
                    self.assertEqual(first_feed_fault(case, plan, c, value), at)
                    self.assertIs(is_feed_log(case, plan, c, value), False)
                for entry in ((strange, ((),) * c), (('commit', strange), ((),) * c),
                              (('deliver', strange), ((),) * c), (strange, strange)):
                    self.assertEqual(first_feed_fault(case, plan, c, log + [entry]), len(log))
                call, _ = log[0]
                self.assertEqual(first_feed_fault(case, plan, c, [(call, strange)]), 0)
                self.assertEqual(first_feed_fault(case, plan, c, [(call, (strange,) * c)]), 0)

    def test_the_empty_list(self):
        self.assertIsNone(first_feed_fault(SMALL, SAFE, 1, []))
        self.assertIs(is_feed_log(SMALL, SAFE, 1, []), True)

    def test_values_that_are_no_lists(self):
        for case, plan, c, log in self.told[::3]:
            for value in STRANGE_VALUES + [True, 0, tuple(log), (), log[0], dict(enumerate(log)),
                                           {}, Feed(case, plan, c), None, '']:
                # One of the strange values is the empty list.
                self.assertIs(is_feed_log(case, plan, c, value), value == [])

    def test_other_cases_plans_and_numbers_of_children(self):
        for case, plan, c, log in self.told:
            for other in (plan_with(plan, anew='never'), plan_with(plan, looks_again=not plan[6]),
                          plan_with(plan, lanes=3 - plan[0])):
                self.check(case, other, c, log)
            for other in (SMALL, JOINT, PAIR):
                self.check(other, plan, c, log)
            for many in {1, 2, 3, 4} - {c}:
                self.assertEqual(self.check(case, plan, many, log), 0)

    def test_the_value_is_not_changed(self):
        for value in (self.told[0][3], [[[]]], [({}, [])], [(('commit', [[0]]), [()])]):
            before = copy.deepcopy(value)
            first_feed_fault(*self.told[0][:3], value)
            is_feed_log(*self.told[0][:3], value)
            self.assertEqual(value, before)


class Histories(unittest.TestCase):
    def test_they_lead_to_the_childs_standing(self):
        for case, plan, c, seed in runs()[::2]:
            other = random_run(case, plan, c, 25, seed)
            feed = followed(case, plan, c, [call for call, _ in other.log])
            for k in range(c):
                history = history_of(case, plan, c, feed_log(feed), k)
                self.assertIs(type(history), tuple)
                self.assertEqual(history, tuple(other.steps[k]))
                standing = beginning(case, plan)
                for step in history:
                    self.assertIn(step, steps(case, plan, standing))
                    standing = after(case, plan, standing, step)
                self.assertEqual(standing, feed.standing_of(k))

    def test_at_each_length(self):
        case, plan, c = JOINT, plan_with(BARE, late=2, anew='cut'), 3
        log = random_run(case, plan, c, 40, 2).log
        for end in range(len(log) + 1):
            feed = followed(case, plan, c, [call for call, _ in log[:end]])
            for k in range(c):
                standing = beginning(case, plan)
                for step in history_of(case, plan, c, log[:end], k):
                    standing = after(case, plan, standing, step)
                self.assertEqual(standing, feed.standing_of(k))

    def test_own_parts_own_places_and_all_beginnings_anew(self):
        plan = plan_with(BARE, late=2, anew='kept')
        both = UP + (('child', 1, (0, 0)),)
        calls = [('commit', both), ('commit', (('child', 0, (0, 0)),)), ('deliver', 1), ('anew',),
                 ('deliver', 1), ('deliver', 0)]
        log = feed_log(followed(JOINT, plan, 2, calls))
        self.assertEqual(history_of(JOINT, plan, 2, log, 0),
                         (('commit', UP), ('commit', (('child', (0, 0)),)), ('anew',),
                          ('deliver', 1), ('deliver', 0)))
        self.assertEqual(history_of(JOINT, plan, 2, log, 1),
                         (('commit', UP + (('child', (0, 0)),)), ('deliver', 1), ('anew',),
                          ('deliver', 0)))
        self.assertEqual(history_of(JOINT, plan, 2, [], 1), ())

    def test_with_one_lane(self):
        calls = [('commit', UP), ('deliver', 0), ('commit', (('child', 1, (0, 0)),)), ('deliver', 0)]
        log = feed_log(followed(SMALL, SAFE, 2, calls))
        self.assertEqual(history_of(SMALL, SAFE, 2, log, 0), (('commit', UP), ('deliver', 0)))
        self.assertEqual(history_of(SMALL, SAFE, 2, log, 1),
                         (('commit', UP), ('deliver', 0), ('commit', (('child', (0, 0)),)),
                          ('deliver', 0)))

    def test_a_fault_of_a_child_is_one_of_its_history(self):
        history = find_history(SMALL, BARE, ('lacks',))
        calls = [('commit', tuple(('child', 1, change[1]) if change[0] == 'child' else change
                                  for change in step[1])) if step[0] == 'commit' else step
                 for step in history]
        feed = followed(SMALL, BARE, 3, calls)
        self.assertEqual(feed.fault_words(), ((), ('lacks',), ()))
        own = history_of(SMALL, BARE, 3, feed_log(feed), 1)
        self.assertEqual(own, history)
        self.assertIs(is_history(SMALL, BARE, ('lacks',), own), True)

    def test_the_log_is_not_changed(self):
        log = random_run(SMALL, BARE, 2, 20, 1).log
        before = copy.deepcopy(log)
        history_of(SMALL, BARE, 2, log, 0)
        self.assertEqual(log, before)


class Time(unittest.TestCase):
    def test_long_logs(self):
        case, plan = (3, 3, 2, ((0, 0), (0, 2), (1, 1)), True), plan_with(BARE, late=2, anew='kept')
        log = random_run(case, plan, 4, 250, 3).log
        self.assertIs(soon(self, is_feed_log, case, plan, 4, log), True)
        self.assertEqual(soon(self, first_feed_fault, case, plan, 4, log + [0]), len(log))
        for k in range(4):
            self.assertGreater(len(soon(self, history_of, case, plan, 4, log, k)), 20)
        entry = with_part(log[0], 1, (('lacks',),) * 4)
        self.assertEqual(soon(self, first_feed_fault, case, plan, 4, [entry] + [0] * 19_000), 0)


if __name__ == '__main__':
    unittest.main()
