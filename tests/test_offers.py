"""Tests of somerows.offers: points [2] and [13]."""

import copy
import itertools
import random
import unittest

import model
from samples import BARE, JOINT, PAIR, PLAN_PARTS, SAFE, SMALL, STRANGE_VALUES, WORDS
from samples import differing, every_plan, every_words, listed, plan_with, searched, with_part
from somerows.offers import cheapest_plan, cost_of, find_book, is_book, is_offer, is_sound
from somerows.offers import priced, safe_words
from somerows.plans import all_plans
from somerows.tables import find_history, find_table, is_history
from timing import soon

LEAST = (1, 1, 1, ((0, 0),), False)
LARGE = (1, 2, 2, ((0, 0), (1, 1)), True)
PRICES = (5, 3, 1, 6, 4, 2, 20, 40, 70)
NINE = range(9)

# What each of the nine prices is for.
PRICED_PARTS = [('children', 'all'), ('children', 'either'), ('children', 'now'),
                ('parents', 'all'), ('parents', 'either'), ('parents', 'now'),
                ('tells_value', True), ('tells_children', True), ('looks_again', True)]


def turned(offer):
    """Return the offer, written in the other order."""
    return dict(reversed(offer.items()))


def sound_by_search(case, plan, words):
    """Return whether no standing that steps lead to has a fault of the words."""
    return not set(words) - set(model.safe_words(case, plan))


class Examples(unittest.TestCase):
    def test_the_examples_of_the_document(self):
        self.assertEqual([cost_of((5, 3, 1, 6, 4, 2, 20, 40, 70), SAFE),
                          cost_of((5, 3, 1, 6, 4, 2, 20, 40, 70), BARE),
                          len(priced(1, 1, 'never', (0,) * 9))], [141, 11, 72])
        self.assertEqual([safe_words(SMALL, SAFE), safe_words(SMALL, BARE),
                          is_sound(SMALL, BARE, ('blinks',))],
                         [('blinks', 'dangles', 'lacks', 'left'), ('blinks',), True])
        self.assertEqual([cheapest_plan(SMALL, {SAFE: 5, BARE: 2}, ('lacks',)),
                          cheapest_plan(SMALL, {SAFE: 5, BARE: 2}, ('blinks',)),
                          cheapest_plan(SMALL, {BARE: 2}, ('left',))],
                         [(5, (1, 1, 'all', 'all', True, True, True, 'never')),
                          (2, (2, 1, 'all', 'all', False, False, False, 'never')), None])
        self.assertEqual([find_book(SMALL, {BARE: 2}, ('left',))[0],
                          is_book(SMALL, {SAFE: 5, BARE: 2}, ('lacks',), 2, {}),
                          is_book(SMALL, {SAFE: 5, BARE: 2}, ('lacks',), 5, {})],
                         [10000, True, False])


class IsOffer(unittest.TestCase):
    def assert_no_offer(self, value):
        self.assertIs(is_offer(value), False, value)

    def test_one_plan_some_and_72(self):
        plans = every_plan()
        for many in (1, 2, 12, 71, 72):
            for start in (0, 5, 700):
                offer = {plan: number for number, plan in enumerate(plans[start:start + many])}
                self.assertIs(is_offer(offer), True)
        # They need not have the same lanes, late and anew.
        self.assertIs(is_offer({plan: 1 for plan in plans[::12]}), True)

    def test_none_and_more_than_72(self):
        plans = every_plan()
        self.assertEqual(len(plans), 864)
        for many in (0, 73, 74, 100, 864):
            self.assert_no_offer({plan: 1 for plan in plans[:many]})
        self.assert_no_offer({})

    def test_every_plan_may_be_a_key(self):
        for plan in every_plan():
            self.assertIs(is_offer({plan: 7}), True)

    def test_costs_at_the_bounds_and_beyond(self):
        for cost in (0, 1, 9998, 9999):
            self.assertIs(is_offer({SAFE: cost}), True)
            self.assertIs(is_offer({SAFE: 3, BARE: cost}), True)
        for cost in (-1, 10000, 10001, 10 ** 59, -10 ** 59, True, False, None, '5', '', (), (5,),
                     [], [5], {}):
            self.assert_no_offer({SAFE: cost})
            self.assert_no_offer({SAFE: 3, BARE: cost})
            self.assert_no_offer({BARE: cost, SAFE: 3})

    def test_keys_that_are_no_plans(self):
        for key in (None, 0, 1, True, '', 'plan', (), (SAFE,), SAFE[:7], SAFE + (0,), SAFE[::-1],
                    with_part(SAFE, 0, 3), with_part(SAFE, 0, 0), with_part(SAFE, 1, 3),
                    with_part(SAFE, 2, 'none'), with_part(SAFE, 3, ''), with_part(SAFE, 4, None),
                    with_part(SAFE, 5, 2), with_part(SAFE, 7, 'later'), 10 ** 59):
            self.assert_no_offer({key: 5})
            self.assert_no_offer({SAFE: 5, key: 5})
            self.assert_no_offer({key: 5, SAFE: 5})

    def test_keys_that_are_equal_to_plans_but_of_other_kinds(self):
        for at, part in ((0, True), (1, True), (4, 1), (5, 1), (6, 1)):
            key = with_part(SAFE, at, part)
            self.assertEqual(key, SAFE)
            self.assert_no_offer({key: 5})
        for at in (4, 5, 6):
            self.assert_no_offer({with_part(BARE, at, 0): 5})

    def test_other_values(self):
        right = {SAFE: 5, BARE: 2}
        for value in STRANGE_VALUES + [True, 0, 5, SAFE, (SAFE, 5), [right], (right,), list(right),
                                       list(right.items()), tuple(right.items()), {5: SAFE},
                                       {'offer': 5}]:
            self.assert_no_offer(value)

    def test_the_value_is_not_changed(self):
        for value in ({SAFE: 5}, {SAFE: [5]}, {SAFE: 5, 0: {}}, [[SAFE, 5]]):
            before = copy.deepcopy(value)
            is_offer(value)
            self.assertEqual(value, before)


class CostOf(unittest.TestCase):
    def test_each_part_alone(self):
        for at, (name, part) in enumerate(PRICED_PARTS):
            for price in (0, 1, 999):
                prices = with_part((0,) * 9, at, price)
                for plan in every_plan():
                    has = plan[PLAN_PARTS.index(name)] == part
                    self.assertEqual(cost_of(prices, plan), price if has else 0)

    def test_the_sum_of_all_parts(self):
        chance = random.Random(13)
        for plan in every_plan():
            prices = tuple(chance.randint(0, 999) for _ in NINE)
            parts = dict(zip(PLAN_PARTS, plan))
            total = sum(price for price, (name, part) in zip(prices, PRICED_PARTS)
                        if parts[name] == part)
            self.assertEqual(cost_of(prices, plan), total)
            self.assertIs(type(cost_of(prices, plan)), int)

    def test_the_bounds(self):
        for plan in every_plan():
            self.assertEqual(cost_of((0,) * 9, plan), 0)
            self.assertIs(type(cost_of((0,) * 9, plan)), int)
            self.assertEqual(cost_of((999,) * 9, plan), 999 * (2 + sum(plan[4:7])))

    def test_lanes_late_and_anew_cost_nothing(self):
        for plan in (SAFE, BARE):
            for lanes, late, anew in itertools.product((1, 2), (1, 2), ('never', 'cut', 'kept')):
                other = plan_with(plan, lanes=lanes, late=late, anew=anew)
                self.assertEqual(cost_of(PRICES, other), cost_of(PRICES, plan))


class Priced(unittest.TestCase):
    def test_72_plans_at_their_costs(self):
        for lanes, late, anew in itertools.product((1, 2), (1, 2), ('never', 'cut', 'kept')):
            for prices in ((0,) * 9, (999,) * 9, PRICES, tuple(range(100, 109))):
                offer = priced(lanes, late, anew, prices)
                self.assertIs(type(offer), dict)
                self.assertEqual(len(offer), 72)
                self.assertEqual(set(offer), set(every_plan((lanes,), (late,), (anew,))))
                self.assertEqual(offer, {plan: cost_of(prices, plan) for plan in offer})
                self.assertIs(is_offer(offer), True)

    def test_a_new_dict_each_time(self):
        first, second = priced(1, 2, 'cut', PRICES), priced(1, 2, 'cut', PRICES)
        self.assertEqual(first, second)
        first.clear()
        self.assertEqual(len(second), 72)
        self.assertEqual(priced(1, 2, 'cut', PRICES), second)


class Soundness(unittest.TestCase):
    def test_against_a_search_of_every_standing(self):
        found = set()
        for case, plan in searched()[::2]:
            safe = model.safe_words(case, plan)
            found.add(safe)
            self.assertEqual(safe_words(case, plan), safe)
            self.assertIs(type(safe_words(case, plan)), tuple)
            for words in every_words():
                self.assertIs(is_sound(case, plan, words), set(words) <= set(safe))
        self.assertGreater(len(found), 5)

    def test_a_sound_plan_has_a_table_and_no_history(self):
        for case, plan in searched()[::5]:
            for words in every_words():
                sound = is_sound(case, plan, words)
                self.assertIs(find_table(case, plan, words) is not None, sound)
                self.assertIs(find_history(case, plan, words) is None, sound)

    def test_no_words_are_always_sound(self):
        for case, plan in searched()[::7]:
            self.assertIs(is_sound(case, plan, ()), True)

    def test_all_plans_of_the_least_case(self):
        for plan in every_plan((1, 2), (1,), ('never', 'kept')):
            self.assertEqual(safe_words(LEAST, plan), model.safe_words(LEAST, plan))


class Offered(unittest.TestCase):
    """Offers at which every plan's safe words are known by the tests' own search."""

    @classmethod
    def setUpClass(cls):
        chance = random.Random(7)
        cls.safe = {(SMALL, plan): set(model.safe_words(SMALL, plan))
                    for plan in every_plan((1, 2), (1,), ('never',))}
        plans = [plan for _, plan in cls.safe]
        cls.offers = [
            {SAFE: 5, BARE: 2}, {BARE: 2}, {SAFE: 0}, {SAFE: 9999, BARE: 9999},
            priced(1, 1, 'never', PRICES), priced(2, 1, 'never', (0,) * 9),
            priced(1, 1, 'never', (1, 1, 1, 1, 1, 1, 2, 2, 2)),
        ]
        for greatest in (3, 10, 9999):
            for many in (1, 5, 20, 72):
                cls.offers.append({plan: chance.randint(0, greatest)
                                   for plan in chance.sample(plans, many)})

    def sound(self, offer, words):
        return [plan for plan in offer if set(words) <= self.safe[SMALL, plan]]

    def least(self, offer, words):
        """Return (cost, plan) for the least of the cheapest sound plans, or None."""
        return min(((offer[plan], plan) for plan in self.sound(offer, words)), default=None)


class CheapestPlan(Offered):
    def test_against_all_plans_of_the_offer(self):
        found = set()
        for offer in self.offers:
            for words in every_words()[::2]:
                least = self.least(offer, words)
                found.add(least and least[0])
                self.assertEqual(cheapest_plan(SMALL, offer, words), least)
                self.assertEqual(cheapest_plan(SMALL, turned(offer), words), least)
        self.assertIn(None, found)
        self.assertGreater(len(found), 10)

    def test_the_least_plan_where_costs_are_alike(self):
        plans = every_plan((1, 2), (1,), ('never',))
        for words in every_words():
            offer = {plan: 4 for plan in plans[::2]}
            sound = self.sound(offer, words)
            self.assertGreater(len(sound), 1)
            self.assertEqual(cheapest_plan(SMALL, offer, words), (4, min(sound)))
            self.assertEqual(cheapest_plan(SMALL, turned(offer), words), (4, min(sound)))

    def test_the_cheapest_plan_is_not_sound(self):
        self.assertEqual(cheapest_plan(SMALL, {BARE: 0, SAFE: 9999}, ('left',)), (9999, SAFE))
        self.assertEqual(cheapest_plan(SMALL, {BARE: 0, SAFE: 9999}, ()), (0, BARE))

    def test_none_is_sound(self):
        for words in (('dangles',), ('lacks',), ('left',), WORDS):
            self.assertIsNone(cheapest_plan(SMALL, {BARE: 0}, words))

    def test_the_offer_is_not_changed(self):
        for offer in self.offers[:8]:
            before = list(offer.items())
            cheapest_plan(SMALL, offer, ('left',))
            find_book(SMALL, offer, ('left',))
            self.assertEqual(list(offer.items()), before)


class FindBook(Offered):
    def test_the_cost_and_a_history_against_each_cheaper_plan(self):
        for offer in self.offers:
            for words in every_words()[::3] + [WORDS]:
                found = find_book(SMALL, offer, words)
                self.assertIs(type(found), tuple)
                cost, book = found
                least = self.least(offer, words)
                self.assertEqual(cost, 10000 if least is None else least[0])
                self.assertIs(type(book), dict)
                self.assertEqual(set(book), {plan for plan in offer if offer[plan] < cost})
                for plan, history in book.items():
                    self.assertIs(model.holds_as_history(SMALL, plan, words, history), True)
                    self.assertIs(is_history(SMALL, plan, words, history), True)
                self.assertIs(is_book(SMALL, offer, words, cost, book), True)
                self.assertEqual(find_book(SMALL, turned(offer), words), found)

    def test_none_is_sound(self):
        cost, book = find_book(SMALL, {BARE: 9999, plan_with(BARE, looks_again=True): 0}, WORDS)
        self.assertEqual((cost, len(book)), (10000, 2))

    def test_no_unsound_plan_at_the_cost_itself(self):
        # BARE comes behind the sound plan, the other one before it.
        early = plan_with(SAFE, tells_value=False, tells_children=False)
        self.assertLess(early, SAFE)
        self.assertIs(is_sound(SMALL, early, ('lacks',)), False)
        self.assertEqual(find_book(SMALL, {SAFE: 5, BARE: 5, early: 5}, ('lacks',)), (5, {}))
        cost, book = find_book(SMALL, {SAFE: 5, BARE: 4, early: 5}, ('lacks',))
        self.assertEqual((cost, list(book)), (5, [BARE]))

    def test_a_new_dict_each_time(self):
        offer = {SAFE: 5, BARE: 2}
        _, first = find_book(SMALL, offer, ('left',))
        first.clear()
        self.assertEqual(list(find_book(SMALL, offer, ('left',))[1]), [BARE])


class IsBook(unittest.TestCase):
    def setUp(self):
        self.other = plan_with(BARE, looks_again=True, tells_children=True)
        self.offer = {SAFE: 6, BARE: 2, self.other: 4,
                      plan_with(SAFE, anew='kept'): 8, plan_with(BARE, anew='kept'): 9}
        self.told = []
        for case, words in ((SMALL, ('lacks',)), (JOINT, ('dangles', 'left')), (PAIR, WORDS)):
            self.told.append((case, self.offer, words) + find_book(case, self.offer, words))
        self.told.append((SMALL, {BARE: 2}, WORDS) + find_book(SMALL, {BARE: 2}, WORDS))

    def assert_no_book(self, told, value):
        self.assertIs(is_book(*told[:4], value), False, (told[:4], value))

    def test_what_was_told(self):
        self.assertEqual(min(len(told[4]) for told in self.told), 1)
        for told in self.told:
            self.assertIs(is_book(*told), True)
            self.assertIs(is_book(*told[:4], turned(told[4])), True)

    def test_costs_nearby(self):
        for case, offer, words, _, book in self.told:
            for cost in list(range(13)) + [9999, 10000]:
                right = {plan for plan in offer if offer[plan] < cost} == set(book)
                self.assertIs(is_book(case, offer, words, cost, book), right)
        # A cost may lie below that of the cheapest sound plan, and between two costs.
        for cost, plans in ((0, []), (2, []), (3, [BARE]), (4, [BARE]), (5, [BARE, self.other])):
            book = {plan: find_history(SMALL, plan, ('lacks',)) for plan in plans}
            self.assertIs(is_book(SMALL, self.offer, ('lacks',), cost, book), True)

    def test_no_cost_beyond_a_sound_plan_has_a_book(self):
        history = find_history(SMALL, BARE, ('lacks',))
        offer = {SAFE: 5, BARE: 2}
        self.assertIs(is_book(SMALL, offer, ('lacks',), 5, {BARE: history}), True)
        for cost in (6, 10000):
            for of_safe in (history, (), None):
                book = {BARE: history, SAFE: of_safe}
                self.assertIs(is_book(SMALL, offer, ('lacks',), cost, book), False)
            self.assertIs(is_book(SMALL, offer, ('lacks',), cost, {BARE: history}), False)

    def test_a_plan_left_out_or_put_in(self):
        for told in self.told:
            book = told[4]
            for plan in book:
                self.assert_no_book(told, {key: book[key] for key in book if key != plan})
            self.assert_no_book(told, {})
            for plan in every_plan((1, 2), (1,), ('never', 'kept')):
                if plan not in book:
                    for history in list(book.values()) + [()]:
                        self.assert_no_book(told, {**book, plan: history})

    def test_a_plan_exchanged(self):
        for told in self.told:
            book = told[4]
            for plan in book:
                for other in differing(plan) + [SAFE]:
                    if isinstance(other, tuple) and other not in book:
                        changed = {other if key == plan else key: book[key] for key in book}
                        self.assert_no_book(told, changed)

    def test_keys_of_other_kinds(self):
        for told in self.told:
            book = told[4]
            for plan in book:
                for at in (0, 1, 4, 5, 6):
                    part = int(plan[at]) if at > 3 else bool(plan[at])
                    key = with_part(plan, at, part)
                    changed = {key if own == plan else own: book[own] for own in book}
                    self.assert_no_book(told, changed)
            for key in (None, 0, '', (), 'plan', 10 ** 59, (SAFE,)):
                self.assert_no_book(told, {**book, key: ()})
                self.assert_no_book(told, {**book, key: next(iter(book.values()))})

    def test_histories_that_differ_by_a_part(self):
        for told in self.told[:2] + self.told[3:]:
            case, _, words, _, book = told
            for plan, history in book.items():
                for other in differing(history):
                    right = (model.along_path(case, plan, other) is not None
                             and model.holds_as_history(case, plan, words, other))
                    self.assertIs(is_book(*told[:4], {**book, plan: other}), right)

    def test_histories_exchanged(self):
        for told in self.told:
            case, _, words, _, book = told
            for plan, other in itertools.permutations(book, 2):
                changed = {**book, plan: book[other]}
                right = model.holds_as_history(case, plan, words, book[other])
                self.assertIs(is_book(*told[:4], changed), right)

    def test_longer_histories_are_right_too(self):
        case, offer, words, cost, book = self.told[3]
        up, down = ('commit', (('parent', 0, 0),)), ('commit', (('parent', 0, -1),))
        first = ('deliver', 0)
        longer = (up, first, down, first) * 3 + book[BARE]
        self.assertIs(is_book(case, offer, words, cost, {BARE: longer}), True)

    def test_other_words(self):
        for case, offer, _, cost, book in self.told:
            for words in every_words():
                right = all(model.holds_as_history(case, plan, words, history)
                            for plan, history in book.items())
                self.assertIs(is_book(case, offer, words, cost, book), right)

    def test_other_values(self):
        for told in self.told:
            book = told[4]
            others = [True, 0, None, list(book), list(book.items()), tuple(book.items()), [book],
                      (book,), (told[3], book), {0: book}, {BARE: book}, SAFE,
                      {plan: listed(history) for plan, history in book.items()},
                      {plan: list(history) for plan, history in book.items()},
                      dict.fromkeys(book), dict.fromkeys(book, ()), dict.fromkeys(book, True)]
            for value in STRANGE_VALUES + others:
                self.assert_no_book(told, value)
        for strange in STRANGE_VALUES:
            self.assert_no_book(self.told[3], {BARE: strange})

    def test_the_empty_book(self):
        for cost in (0, 1, 2):
            self.assertIs(is_book(SMALL, {SAFE: 5, BARE: 2}, ('lacks',), cost, {}), True)
            for value in ((), [], None, '', 0, False):
                self.assertIs(is_book(SMALL, {SAFE: 5, BARE: 2}, ('lacks',), cost, value), False)

    def test_no_argument_changes(self):
        for told in self.told:
            for value in (told[4], {BARE: [[]]}, [told[4]], {0: {}}):
                arguments = list(told[:4]) + [value]
                before = copy.deepcopy(arguments)
                is_book(*arguments)
                self.assertEqual(arguments, before)


class Time(unittest.TestCase):
    def test_72_plans_in_the_least_case(self):
        for words in [(word,) for word in WORDS] + [(), WORDS]:
            offer = priced(2, 2, 'kept', PRICES)
            cost, book = soon(self, find_book, LEAST, offer, words)
            self.assertIs(soon(self, is_book, LEAST, offer, words, cost, book), True)

    def test_72_plans_in_a_large_case(self):
        for lanes, late, anew in ((2, 2, 'kept'), (1, 2, 'never')):
            offer = priced(lanes, late, anew, PRICES)
            for words in [(word,) for word in WORDS]:
                cost, book = soon(self, find_book, LARGE, offer, words)
                self.assertIs(soon(self, is_book, LARGE, offer, words, cost, book), True)
                least = soon(self, cheapest_plan, LARGE, offer, words)
                self.assertEqual(cost, 10000 if least is None else least[0])

    def test_one_plan_in_a_large_case(self):
        for plan in all_plans(2, 2, 'kept')[::10]:
            safe = soon(self, safe_words, LARGE, plan)
            self.assertIs(soon(self, is_sound, LARGE, plan, safe), True)


if __name__ == '__main__':
    unittest.main()
