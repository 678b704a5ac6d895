"""Tests of somerows.papers: points [2] and [19]."""

import copy
import itertools
import unittest

from samples import BARE, SAFE, SMALL, STRANGE_VALUES, all_cases, every_plan
from somerows.errors import InvalidText
from somerows.papers import read_case, read_plan, text_of_case, text_of_plan
from timing import soon


def paper_of_plan(plan):
    """Return the text of a plan, in the words of point [19]."""
    lanes, late, children, parents, tells_value, tells_children, looks_again, anew = plan
    text = 'lanes ' + '_12'[lanes] + ', late ' + '_12'[late]
    text += ', children ' + children + ', parents ' + parents
    text += ', tells values' * tells_value + ', tells children' * tells_children
    return text + ', looks again' * looks_again + ', anew ' + anew


def paper_of_case(case):
    """Return the text of a case, in the words of point [19]."""
    n, values, kinds, test, joint = case
    text = 'parents {}, values {}, kinds {}, passing'.format(n, values, kinds)
    for kind, value in test:
        text += ' ' + str(kind) + '.' + str(value)
    return text + ' none' * (not test) + ', joint' * joint


PLANS = {paper_of_plan(plan): plan for plan in every_plan()}
CASES = {paper_of_case(case): case for case in all_cases()}


def by_parts(text, mark):
    """Return texts in which a part between the marks is left out, doubled or exchanged."""
    parts = text.split(mark)
    found = []
    for at in range(len(parts)):
        found += [parts[:at] + parts[at + 1:], parts[:at + 1] + parts[at:],
                  parts[:at] + parts[at:at + 2][::-1] + parts[at + 2:], parts[:at], parts[at:],
                  parts[:at] + [''] + parts[at:], parts[:at] + [parts[at].upper()] + parts[at + 1:],
                  parts[:at] + [parts[at].title()] + parts[at + 1:]]
        for put in ('tells values', 'joint', 'none', '0.0', '1.2', 'x', 'looks again', 'lanes 1',
                    'parents 1', 'parents all', 'anew cut', 'values', 'None', 'all'):
            found += [parts[:at] + [put] + parts[at:], parts[:at] + [put] + parts[at + 1:]]
    found += [parts[::-1], parts + parts]
    return [mark.join(other) for other in found]


def by_signs(text):
    """Return texts in which a sign is left out, doubled, exchanged or another one."""
    found = []
    for at, sign in enumerate(text):
        before, behind = text[:at], text[at + 1:]
        found += [before + behind, before + sign * 2 + behind, before + sign.swapcase() + behind,
                  before + behind[:1] + sign + behind[1:], before, text[at:]]
        found += [before + put + behind for put in ' ,.0123x\n']
    # Blanks and digits that only look alike.
    found += [text.replace(' ', other) for other in ('', '  ', '\t', '\n', '\u00a0', '\u2003', '_')]
    found += [text.replace(', ', other) for other in (',', ' ', ' , ', ';', ',  ', '; ', '\n')]
    for one, two in (('1', '\u0661'), ('1', '\uff11'), ('1', '\u00b9'), ('2', '\u0662'),
                     ('2', '\u00b2'), ('1', '01'), ('1', '+1'), ('2', '2.0'), ('1', '1_'),
                     ('1', ' 1'), ('0', '-0'), ('.', ','), ('.', ' '), ('.', '. ')):
        found.append(text.replace(one, two))
    return found + [text + sign for sign in ' ,.\n'] + [sign + text for sign in ' ,.\n'] + [
        text.upper(), text.title(), text.capitalize(), text + ', ', ', ' + text, text + text,
        text + ', ' + text, text[::-1], repr(text), '\ufeff' + text]


class Examples(unittest.TestCase):
    def test_the_examples_of_the_document(self):
        self.assertEqual(
            [text_of_plan(SAFE), text_of_plan(BARE)],
            ['lanes 1, late 1, children all, parents all, tells values, tells children, '
             'looks again, anew never', 'lanes 2, late 1, children all, parents all, anew never'])
        self.assertEqual(
            [text_of_case(SMALL), text_of_case((2, 3, 2, ((0, 2), (1, 0)), True)),
             text_of_case((1, 1, 1, (), False))],
            ['parents 1, values 2, kinds 1, passing 0.1',
             'parents 2, values 3, kinds 2, passing 0.2 1.0, joint',
             'parents 1, values 1, kinds 1, passing none'])
        self.assertEqual([read_plan(text_of_plan(SAFE)) == SAFE,
                          read_case('parents 1, values 2, kinds 1, passing 0.1') == SMALL],
                         [True, True])
        with self.assertRaises(InvalidText) as caught:
            read_case('parents 1, values 2, kinds 1, passing 0.2')
        self.assertEqual(caught.exception.text, 'parents 1, values 2, kinds 1, passing 0.2')


class Texts(unittest.TestCase):
    def test_all_plans(self):
        self.assertEqual(len(PLANS), 864)
        for text, plan in PLANS.items():
            self.assertEqual(text_of_plan(plan), text)
            self.assertEqual(repr(read_plan(text)), repr(plan))

    def test_all_cases(self):
        self.assertEqual(len(CASES), 588)
        for text, case in CASES.items():
            self.assertEqual(text_of_case(case), text)
            self.assertEqual(repr(read_case(text)), repr(case))

    def test_the_kinds_of_what_is_told(self):
        self.assertIs(type(text_of_plan(SAFE)), str)
        self.assertIs(type(text_of_case(SMALL)), str)
        self.assertIs(type(read_plan(text_of_plan(SAFE))), tuple)
        self.assertIs(type(read_case(text_of_case(SMALL))), tuple)


class WrongTexts(unittest.TestCase):
    def check(self, read, right, value):
        """Check what is read from any value, by all texts that there are."""
        if type(value) is str and value in right:
            self.assertEqual(repr(read(value)), repr(right[value]))
            return
        before = copy.deepcopy(value)
        with self.assertRaises(InvalidText) as caught:
            read(value)
        self.assertIs(type(caught.exception), InvalidText)
        self.assertEqual(repr(caught.exception.text), repr(before))
        self.assertEqual(repr(value), repr(before))

    def test_plans_that_differ_by_a_part_or_a_sign(self):
        for text in list(PLANS)[::37]:
            for other in by_parts(text, ', ') + by_parts(text, ' ') + by_signs(text):
                self.check(read_plan, PLANS, other)

    def test_cases_that_differ_by_a_part_or_a_sign(self):
        for text in list(CASES)[::19] + ['parents 3, values 3, kinds 2, passing none, joint']:
            for other in by_parts(text, ', ') + by_parts(text, ' ') + by_signs(text):
                self.check(read_case, CASES, other)

    def test_numbers_and_words_beyond_the_bounds(self):
        plan = text_of_plan(SAFE)
        for one, two in itertools.product(('lanes 1', 'late 1'), range(-1, 12)):
            self.check(read_plan, PLANS, plan.replace(one, one[:-1] + str(two)))
        for one, two in itertools.product(('children all', 'parents all', 'anew never'),
                                          ('all', 'either', 'now', 'none', 'never', 'cut', 'kept',
                                           '', 'None', 'True', '1')):
            self.check(read_plan, PLANS, plan.replace(one, one.partition(' ')[0] + ' ' + two))
        for numbers in itertools.product(range(5), repeat=3):
            for passing in ('none', '', '0.0', '0.1', '1.0', '1.2', '2.0', '0.3', '0.0 0.0',
                            '1.0 0.0', '0.0 none', 'none 0.0', '0.0, 0.1', '00.0', '-1.0'):
                text = 'parents {}, values {}, kinds {}, passing '.format(*numbers) + passing
                self.check(read_case, CASES, text)
                self.check(read_case, CASES, text + ', joint')

    def test_pairs_in_every_order(self):
        for many in range(5):
            for pairs in itertools.product(('0.0', '0.1', '1.0', '1.1'), repeat=many):
                text = ' '.join(['parents 1, values 2, kinds 2, passing'] + list(pairs))
                self.check(read_case, CASES, text)

    def test_a_text_of_the_other_kind(self):
        for text in PLANS:
            self.check(read_case, CASES, text)
        for text in CASES:
            self.check(read_plan, PLANS, text)

    def test_the_empty_text_and_others(self):
        for text in ('', ' ', ',', ', ', 'plan', 'None', 'parents', 'passing none', 'lanes 1'):
            self.check(read_plan, PLANS, text)
            self.check(read_case, CASES, text)

    def test_values_that_are_no_texts(self):
        for value in STRANGE_VALUES + [True, 0, SAFE, SMALL, [text_of_plan(SAFE)],
                                       (text_of_case(SMALL),), {text_of_plan(SAFE): SAFE},
                                       text_of_plan(SAFE).split(', '), list(text_of_case(SMALL))]:
            self.check(read_plan, PLANS, value)
            self.check(read_case, CASES, value)

    def test_long_texts(self):
        for text in ('x' * 100_000, ', ' * 50_000, text_of_case(SMALL) + ' 0.1' * 10_000,
                     'joint, ' * 10_000 + text_of_plan(SAFE)):
            for read in (read_plan, read_case):
                with self.assertRaises(InvalidText):
                    soon(self, read, text)


if __name__ == '__main__':
    unittest.main()
