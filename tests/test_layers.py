"""Tests of somerows.layers: points [2], [3] and [12]."""

import copy
import unittest

import model
from samples import BARE, JOINT, PAIR, SAFE, SMALL, STRANGE_VALUES, WORDS
from samples import every_words, listed, plan_with, searched, with_part
from somerows.faults import faults
from somerows.layers import fewest_steps, find_layers, is_layers
from somerows.standings import after, beginning, is_standing, steps
from somerows.tables import find_history, find_table
from timing import soon

ABSENT = ((-1,), ())

# A great case in which a fault comes late.
LARGE = ((1, 2, 2, ((0, 0), (1, 1)), True),
         (2, 2, 'either', 'either', True, True, False, 'kept'))


def without(layers, standing):
    return {other: layers[other] for other in layers if other != standing}


def with_number(layers, standing, number):
    """Return the layers with another number of a standing, or with one more standing."""
    return {**layers, standing: number}


class Finding(unittest.TestCase):
    def test_the_examples_of_the_document(self):
        self.assertEqual(
            [fewest_steps(SMALL, BARE, ('lacks',)), fewest_steps(SMALL, SAFE, ('lacks',)),
             is_layers(SMALL, BARE, ('lacks',), 0, {beginning(SMALL, BARE): 0}),
             is_layers(SMALL, BARE, ('lacks',), 1, {beginning(SMALL, BARE): 0})],
            [4, None, True, False])

    def test_layers_reach_as_far_as_a_shortest_history(self):
        for case, plan in searched():
            distances = model.distances(case, plan)
            for words in every_words()[::3] + [WORDS]:
                fewest = model.fewest(case, words, distances)
                layers = find_layers(case, plan, words)
                self.assertEqual(fewest_steps(case, plan, words), fewest)
                if fewest is None:
                    self.assertIsNone(layers)
                    continue
                self.assertIs(type(fewest_steps(case, plan, words)), int)
                self.assertIs(type(layers), dict)
                self.assertEqual(max(layers.values()), fewest)
                self.assertIs(model.holds_as_layers(case, plan, words, fewest, layers), True)
                self.assertIs(is_layers(case, plan, words, fewest, layers), True)
                self.assertIs(is_layers(case, plan, words, fewest + 1, layers), False)

    def test_layers_go_with_a_history(self):
        for case, plan in searched()[::2]:
            for words in every_words():
                history = find_history(case, plan, words)
                layers = find_layers(case, plan, words)
                self.assertEqual(history is None, layers is None)
                self.assertEqual(fewest_steps(case, plan, words), history and len(history))

    def test_layers_step_by_step(self):
        for case, plan in searched()[::2]:
            for words in [(word,) for word in WORDS]:
                layers = find_layers(case, plan, words)
                if layers is None or len(layers) > 300:
                    continue
                self.assertEqual(layers[beginning(case, plan)], 0)
                for standing, number in layers.items():
                    self.assertIs(is_standing(case, plan, standing), True)
                    self.assertIs(type(number), int)
                    self.assertGreaterEqual(number, 0)
                    if number == max(layers.values()):
                        continue
                    self.assertFalse(set(faults(case, standing)) & set(words))
                    for step in steps(case, plan, standing):
                        later = after(case, plan, standing, step)
                        self.assertLessEqual(layers[later], number + 1)

    def test_a_new_dict_each_time_and_arguments_do_not_change(self):
        arguments = [PAIR, plan_with(BARE, anew='kept'), ('left',)]
        kept = copy.deepcopy(arguments)
        first, second = find_layers(*arguments), find_layers(*kept)
        fewest_steps(*arguments)
        self.assertEqual(arguments, kept)
        self.assertEqual(first, second)
        self.assertIsNot(first, second)
        first.clear()
        self.assertEqual(find_layers(*arguments), second)

    def test_no_words_have_no_layers(self):
        for case, plan in searched()[::5]:
            self.assertIsNone(find_layers(case, plan, ()))
            self.assertIsNone(fewest_steps(case, plan, ()))


class IsLayers(unittest.TestCase):
    def setUp(self):
        self.told = []
        for case, plan, words in ((SMALL, BARE, ('lacks',)), (SMALL, BARE, ('dangles',)),
                                  (PAIR, plan_with(SAFE, tells_children=False), WORDS),
                                  (JOINT, plan_with(BARE, anew='cut'), ('dangles', 'left'))):
            layers = find_layers(case, plan, words)
            self.told.append((case, plan, words, max(layers.values()), layers))

    def assert_no_layers(self, told, value, number=0):
        self.assertIs(is_layers(*told[:3], number, value), False, (told[:3], value))

    def assert_by_definition(self, told, value):
        found = [is_layers(*told[:3], number, value) for number in (0, told[3])]
        self.assertEqual(found, [model.holds_as_layers(*told[:3], number, value)
                                 for number in (0, told[3])])
        return found[0]

    def test_numbers_at_above_and_below_the_greatest(self):
        for told in self.told:
            for number in range(told[3] + 1):
                self.assertIs(is_layers(*told[:3], number, told[4]), True)
            for number in (told[3] + 1, told[3] + 2, 10 ** 59):
                self.assert_no_layers(told, told[4], number)

    def test_a_number_changed(self):
        found = []
        for told in self.told:
            layers = told[4]
            for standing in list(layers)[::1 + len(layers) // 30]:
                for change in (-2, -1, 1, 2, 10 ** 59):
                    value = with_number(layers, standing, layers[standing] + change)
                    found.append(self.assert_by_definition(told, value))
        self.assertEqual(set(found), {False, True})

    def test_the_beginning_has_nothing_but_0(self):
        for told in self.told:
            start = beginning(*told[:2])
            for number in (1, -1, told[3], 10 ** 59):
                self.assert_no_layers(told, with_number(told[4], start, number))
            self.assert_no_layers(told, without(told[4], start))

    def test_a_number_below_0(self):
        for told in self.told:
            for standing in list(told[4])[::7]:
                self.assert_no_layers(told, with_number(told[4], standing, -1))
            # No step leads here, so the number alone is wrong.
            lonely = with_part(beginning(*told[:2]), 3, 2)
            self.assertNotIn(lonely, told[4])
            self.assertIs(is_layers(*told[:3], 0, with_number(told[4], lonely, told[3])), True)
            self.assert_no_layers(told, with_number(told[4], lonely, -1))

    def test_truths_and_others_for_numbers(self):
        for told in self.told:
            for standing in list(told[4])[::5]:
                for wrong in (True, False, None, '1', (), (1,), [0], {}, 'x'):
                    self.assert_no_layers(told, with_number(told[4], standing, wrong))
            for standing, number in told[4].items():
                if number in (0, 1):
                    self.assert_no_layers(told, with_number(told[4], standing, bool(number)))
            truths = {standing: number == 1 if number in (0, 1) else number
                      for standing, number in told[4].items()}
            self.assertEqual(truths, told[4])
            self.assert_no_layers(told, truths)
        start = beginning(SMALL, BARE)
        self.assertIs(is_layers(SMALL, BARE, (), 0, {start: 0}), True)
        self.assertIs(is_layers(SMALL, BARE, (), 0, {start: False}), False)

    def test_a_standing_left_out(self):
        found = []
        for told in self.told:
            for standing in list(told[4])[::1 + len(told[4]) // 40]:
                value = without(told[4], standing)
                found.append(self.assert_by_definition(told, value))
        self.assertEqual(set(found), {False})

    def test_a_standing_put_in(self):
        found = []
        for told in self.told:
            case, plan, words, greatest, layers = told
            start = beginning(case, plan)
            others = [with_part(start, 3, 1), with_part(start, 3, 2)]
            others += [standing for standing in find_table(case, plan, ())
                       if standing not in layers][::9]
            for standing in others:
                for number in (0, 1, greatest - 1, greatest, greatest + 1, greatest + 5):
                    found.append(self.assert_by_definition(
                        told, with_number(layers, standing, number)))
        self.assertEqual(set(found), {False, True})

    def test_lower_layers(self):
        # The greatest number may be less than that of a shortest history.
        for told in self.told:
            for greatest in range(told[3]):
                value = {standing: number for standing, number in told[4].items()
                         if number <= greatest}
                for number in range(told[3] + 2):
                    self.assertIs(is_layers(*told[:3], number, value), number <= greatest)

    def test_steps_may_lead_back(self):
        for told in self.told:
            case, plan, words, greatest, layers = told
            leaps = [number - layers[later] for standing, number in layers.items()
                     if number < greatest
                     for later in model.laters(case, plan, standing)]
            self.assertGreaterEqual(max(leaps), 1)

    def test_faults_at_the_greatest_number_alone(self):
        case, plan, words = SMALL, BARE, ('lacks',)
        distances = model.distances(case, plan)
        # All standings at their distances: some below the greatest have the fault.
        self.assertIs(is_layers(case, plan, words, 0, distances), False)
        self.assertIs(is_layers(case, plan, ('blinks',), 0, distances), True)
        layers = find_layers(case, plan, words)
        worst = {layers[standing] for standing in layers if 'lacks' in faults(case, standing)}
        self.assertEqual(worst, {4})

    def test_other_words_cases_and_plans(self):
        for told in self.told:
            case, plan, _, greatest, layers = told
            for words in every_words():
                self.assert_by_definition((case, plan, words, greatest), layers)
            turned = plan_with(plan, lanes=3 - plan[0])
            self.assert_no_layers((case, turned, ()), layers)
            self.assert_no_layers(((3, 1, 1, (), False), plan, ()), layers)

    def test_the_order_of_the_keys_means_nothing(self):
        for told in self.told:
            turned = {standing: told[4][standing] for standing in reversed(sorted(told[4]))}
            self.assertIs(is_layers(*told[:4], turned), True)

    def test_keys_of_other_kinds(self):
        start = beginning(SMALL, BARE)
        layers = find_layers(SMALL, BARE, ('lacks',))
        told = (SMALL, BARE, ('lacks',))
        for wrong in (None, 0, True, '', 'x', (), (0,), start[:3], start + (0,),
                      with_part(start, 3, 3), with_part(start, 3, None),
                      with_part(start, 2, ((None,), ())), ((start,),), 10 ** 59):
            for number in (0, 1, 4):
                self.assert_no_layers(told, {**layers, wrong: number})
        # These keys are equal to right ones.
        for other in (with_part(start, 3, False), ((((-1,), ()), ((-1,), ()), ((), ()), False))):
            value = without(layers, start)
            value[other] = 0
            self.assertEqual(value, layers)
            self.assert_no_layers(told, value)
        up = after(SMALL, BARE, start, ('commit', (('parent', 0, 1),)))
        value = without(layers, up)
        value[with_part(up, 0, ((True,), ()))] = layers[up]
        self.assertEqual(value, layers)
        self.assert_no_layers(told, value)

    def test_other_values(self):
        for told in self.told:
            others = [(), True, 0, None, list(told[4]), list(told[4].items()), tuple(told[4]),
                      tuple(told[4].items()), [told[4]], (told[4],), {0: told[4]}]
            for value in STRANGE_VALUES + others:
                self.assert_no_layers(told, value)
        self.assertIs(is_layers(SMALL, BARE, (), 0, {}), False)
        self.assertIs(is_layers(SMALL, BARE, (), 0, {number: 0 for number in range(9_000)}), False)
        self.assertIs(is_layers(SMALL, BARE, (), 0, {beginning(SMALL, BARE): []}), False)

    def test_no_argument_changes(self):
        case, plan, words, greatest, layers = self.told[0]
        for value in (layers, listed(tuple(layers)), with_number(layers, beginning(case, plan), [])):
            arguments = [case, plan, words, greatest, value]
            kept = copy.deepcopy(arguments)
            is_layers(*arguments)
            self.assertEqual(arguments, kept)


class Time(unittest.TestCase):
    def test_large_layers(self):
        case, plan = LARGE
        # With no words a search has no end before the last standing.
        self.assertIsNone(soon(self, find_layers, case, plan, ()))
        distances = model.distances(case, plan)
        greatest = max(distances.values())
        self.assertIs(soon(self, is_layers, case, plan, (), greatest, distances), True)
        self.assertIs(soon(self, is_layers, case, plan, (), greatest + 1, distances), False)
        for words in [(word,) for word in WORDS]:
            fewest = soon(self, fewest_steps, case, plan, words)
            layers = soon(self, find_layers, case, plan, words)
            self.assertEqual(fewest, model.fewest(case, words, distances))
            self.assertEqual(layers and max(layers.values()), fewest)


if __name__ == '__main__':
    unittest.main()
