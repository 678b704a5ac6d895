"""Tests of somerows.faults: points [2] and [10]."""

import copy
import itertools
import unittest

import model
from samples import BARE, PAIR, SAFE, SMALL, STRANGE_VALUES, all_copies, all_sources, plan_with
from somerows.faults import faults, is_words
from walks import walk

WORDS = ('blinks', 'dangles', 'lacks', 'left')
THREE = (1, 3, 1, ((0, 1), (0, 2)), False)
KINDS = (2, 2, 2, ((0, 1), (1, 0)), False)
ABSENT = ((-1,), ())

# With one lane, lanes that hold a message; with or without an entry in it.
BUSY = [((('parent', 0, 1, ()),),), (((),),)]


class IsWords(unittest.TestCase):
    def assert_no_words(self, value):
        self.assertIs(is_words(value), False, value)

    def test_the_examples_of_the_document(self):
        self.assertEqual(
            [is_words(('lacks', 'left')), is_words(('left', 'lacks')), is_words(('gone',)),
             is_words(())],
            [True, False, False, True])

    def test_all_words_in_each_order(self):
        for size in range(5):
            for words in itertools.permutations(WORDS, size):
                self.assertIs(is_words(words), list(words) == sorted(words), words)

    def test_a_word_twice(self):
        for size in range(1, 5):
            for words in itertools.combinations(WORDS, size):
                for at in range(size):
                    self.assert_no_words(words[:at + 1] + words[at:])
                self.assert_no_words(words + words)
        self.assert_no_words(('lacks',) * 20_000)

    def test_other_words(self):
        for word in ('', 'lack', 'Lacks', 'lacks ', 'gone', 'blinkss', 'so', 'zzz', b'lacks'):
            self.assert_no_words((word,))
            self.assert_no_words(('blinks', word))
            self.assert_no_words((word, 'left'))

    def test_other_kinds(self):
        for words in ((), ('lacks',), WORDS):
            self.assert_no_words(list(words))
            self.assert_no_words(dict.fromkeys(words))
            self.assert_no_words((words,))
            self.assert_no_words([words])
        for value in ('lacks', 'blinks', '', 0, 1, True, None):
            self.assert_no_words(value)
        for part in (None, 0, True, (), ('lacks',), ['lacks'], {'lacks': True}):
            self.assert_no_words((part,))
            self.assert_no_words((part, 'left'))
            self.assert_no_words(('blinks', part, 'left'))

    def test_other_values(self):
        for value in STRANGE_VALUES:
            self.assert_no_words(value)
            self.assert_no_words((value,))
            self.assert_no_words(('lacks', value))
            self.assert_no_words((value, 'lacks'))

    def test_the_value_is_not_changed(self):
        for value in STRANGE_VALUES + [list(WORDS), (['lacks'],)]:
            before = copy.deepcopy(value)
            is_words(value)
            self.assertEqual(value, before)


class Examples(unittest.TestCase):
    def test_the_examples_of_the_document(self):
        self.assertEqual(
            [faults(SMALL, (((1,), (0, 0)), ((1,), ()), ((), ()), 0)),
             faults(SMALL, (((0,), ()), ((-1,), (0, 0)), ((), ()), 0)),
             faults(SMALL, (((1,), (0, 0)), ((1,), ()), ((), ((('child', (0, 0), -1),),)), 0))],
            [('lacks',), ('dangles', 'left'), ()])


class Faults(unittest.TestCase):
    def assert_faults(self, case, source, held, words, mark=0):
        """Check the words with all lanes empty, and those that stay with one that is not."""
        for lanes in (((),), ((), ())):
            self.assertEqual(faults(case, (source, held, lanes, mark)), words)
        staying = tuple(word for word in words if word in ('blinks', 'dangles'))
        for lane in BUSY:
            for lanes in ((lane,), (lane, ()), ((), lane), (lane, lane)):
                self.assertEqual(faults(case, (source, held, lanes, mark)), staying)

    def test_none(self):
        self.assert_faults(SMALL, ABSENT, ABSENT, ())
        self.assert_faults(SMALL, ((0,), (0, 0)), ABSENT, ())
        self.assert_faults(SMALL, ((1,), ()), ((1,), ()), ())
        self.assert_faults(SMALL, ((1,), (0, 0)), ((1,), (0, 0)), ())

    def test_a_parent_that_lacks(self):
        self.assert_faults(SMALL, ((1,), ()), ABSENT, ('lacks',))
        self.assert_faults(PAIR, ((1, 1), ()), ((1, -1), ()), ('lacks',))
        self.assert_faults(PAIR, ((1, 1), ()), ((-1, 1), ()), ('lacks',))

    def test_a_child_that_lacks(self):
        self.assert_faults(SMALL, ((1,), (0, 0)), ((1,), ()), ('lacks',))

    def test_a_row_that_is_there_but_not_so_lacks_and_is_not_left(self):
        self.assert_faults(THREE, ((1,), ()), ((2,), ()), ('lacks',))
        self.assert_faults(KINDS, ((1, 1), (0, 0)), ((1, 1), (0, 1)), ('lacks',))
        self.assert_faults(KINDS, ((1, 1), (0, 0)), ((1, 1), (1, 0)), ('lacks',))

    def test_a_parent_that_is_left(self):
        self.assert_faults(SMALL, ABSENT, ((1,), ()), ('left',))
        self.assert_faults(SMALL, ((0,), ()), ((1,), ()), ('left',))
        self.assert_faults(PAIR, ((1, 0), ()), ((1, 1), ()), ('left',))

    def test_a_child_that_is_left(self):
        self.assert_faults(SMALL, ((1,), ()), ((1,), (0, 0)), ('left',))
        # It is there in the source, but does not pass.
        self.assert_faults(KINDS, ((0, 0), (0, 0)), ((0, 0), (0, 0)), ('left',))

    def test_some_row_lacks_and_another_one_is_left(self):
        self.assert_faults(PAIR, ((1, 0), ()), ((-1, 1), ()), ('lacks', 'left'))
        self.assert_faults(PAIR, ((1, 1), ()), ((1, -1), (0, 0)), ('lacks', 'left'))
        self.assert_faults(PAIR, ((1, 0), (0, 0)), ((1, 1), ()), ('lacks', 'left'))

    def test_a_child_that_dangles(self):
        self.assert_faults(SMALL, ((1,), (0, 0)), ((-1,), (0, 0)), ('dangles', 'lacks'))
        self.assert_faults(SMALL, ABSENT, ((-1,), (0, 0)), ('dangles', 'left'))
        self.assert_faults(PAIR, ((-1, 1), ()), ((-1, 1), (0, 0)), ('dangles', 'left'))
        # Its own parent counts, and only whether the copy has it.
        self.assert_faults(PAIR, ((-1, 1), ()), ((-1, 1), (0, 1)), ('left',))
        self.assert_faults(PAIR, ((-1, 1), (0, 1)), ((-1, 1), (0, 1)), ())

    def test_a_child_that_blinks(self):
        self.assert_faults(SMALL, ABSENT, ABSENT, ('blinks',), 2)
        self.assert_faults(SMALL, ((1,), (0, 0)), ((1,), ()), ('blinks', 'lacks'), 2)
        self.assert_faults(SMALL, ABSENT, ABSENT, (), 1)
        self.assert_faults(SMALL, ((1,), (0, 0)), ((1,), (0, 0)), (), 1)

    def test_all_together(self):
        self.assert_faults(PAIR, ((1, 0), ()), ((-1, 1), (0, 0)), WORDS, 2)
        self.assert_faults(PAIR, ((1, 0), ()), ((-1, 1), (0, 0)), WORDS[1:], 1)

    def test_every_source_and_copy_as_the_model(self):
        for case in (SMALL, THREE, KINDS, PAIR, (3, 1, 1, ((0, 0),), False), (1, 2, 2, (), True)):
            for source in all_sources(*case[:3]):
                for held in all_copies(case):
                    for lanes, mark in ((((),), 0), (((), ()), 2), ((((),),), 1), (((), ((),)), 2)):
                        standing = (source, held, lanes, mark)
                        self.assertEqual(faults(case, standing), model.faults(case, standing))

    def test_words_come_out_and_no_argument_changes(self):
        for base in (SAFE, BARE):
            plan = plan_with(base, late=2, anew='kept')
            for standing in walk(PAIR, plan, 60, 3)[0]:
                arguments = [PAIR, standing]
                kept = copy.deepcopy(arguments)
                found = faults(*arguments)
                self.assertEqual(arguments, kept)
                self.assertIs(is_words(found), True)
                self.assertEqual(found, faults(*kept))


if __name__ == '__main__':
    unittest.main()
