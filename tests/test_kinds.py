"""Tests of [21], and of the definitions of integers and names in [2]."""

import unittest

from deskkeepers.kinds import are_names, is_integer, is_name
from samples import Odd, Unchanged, first, names, nested

SIGNS = [chr(code) for code in range(32, 127)] + ['\n']
LETTERS = 'abcdefghijklmnopqrstuvwxyz'


class TestKinds(unittest.TestCase):
    def same(self, function, thing, wanted):
        """The answer is True or False itself, each time, and the thing is as it was."""
        self.assertIs(function(thing), wanted, repr(thing)[:80])
        self.assertIs(function(thing), wanted, repr(thing)[:80])

    def test_integers(self):
        for thing in (0, 1, -1, 2, 9, -9, 10 ** 39, 10 ** 40 - 1, -10 ** 39, 1 - 10 ** 40, 2 ** 64):
            self.same(is_integer, thing, True)

    def test_integers_of_41_digits_are_integers_too(self):
        for thing in (10 ** 40, -10 ** 40, 10 ** 41 - 1):
            self.same(is_integer, thing, True)

    def test_truth_values_are_no_integers_and_no_names(self):
        for thing in (True, False):
            for function in (is_integer, is_name, are_names):
                self.same(function, thing, False)

    def test_no_integers(self):
        for thing in (None, '', '1', b'1', [], [1], (), (1,), {}, {1: 1}, {1}, range(1), int, object(), Odd(), first()):
            self.same(is_integer, thing, False)

    def test_names_of_each_length(self):
        for letter in LETTERS:
            for length in range(1, 9):
                self.same(is_name, letter * length, True)
            for length in (0, 9, 10, 50):
                self.same(is_name, letter * length, False)
        for thing in ('abcdefgh', 'ijklmnop', 'qrstuvwx', 'yz', 'none', 'true'):
            self.same(is_name, thing, True)
        for thing in ('', 'abcdefghi', LETTERS, LETTERS * 1000):
            self.same(is_name, thing, False)

    def test_each_sign_at_each_place(self):
        for sign in SIGNS:
            for length in (1, 2, 7, 8):
                for at in range(length):
                    word = ('name' * 2)[:at] + sign + ('name' * 2)[at + 1:length]
                    self.assertEqual(len(word), length)
                    self.same(is_name, word, sign in LETTERS)
                    self.same(are_names, [word], sign in LETTERS)

    def test_line_feeds_capitals_and_digits(self):
        for thing in ('a\n', '\na', 'a\n\n', 'abcdefg\n', 'abcdefgh\n', '\n', ' ', 'a ', ' a', 'A', 'Ab', 'aB', 'ABC',
                      'a1', '1a', '0', 'a_b', 'a-b', '-', 'a,b', 'ab cd', '`', '{', 'a{', '`a', '@', '['):
            self.same(is_name, thing, False)

    def test_no_names(self):
        for thing in (None, 0, 1, b'a', ['a'], ('a',), {'a': 1}, {'a'}, [], (), {}, str, object(), Odd(), first()):
            self.same(is_name, thing, False)

    def test_lists_of_names(self):
        for thing in ([], ['a'], ['b', 'a'], ['a', 'aa', 'aaa'], ['abcdefgh'], names(40), names(676), list(LETTERS)):
            with Unchanged(self, thing):
                self.same(are_names, thing, True)

    def test_a_name_twice(self):
        for thing in (['a', 'a'], ['a', 'b', 'a'], ['b', 'a', 'a'], names(40) + names(1), ['ab'] * 50000):
            with Unchanged(self, thing):
                self.same(are_names, thing, False)

    def test_an_item_of_another_kind(self):
        for item in (None, True, 0, 7, '', 'A', 'a b', 'a\n', 'abcdefghi', b'a', [], ['c'], (), ('c',), {}, {'c': 1},
                     {'c'}, object(), Odd(), first()):
            for at in range(3):
                thing = ['a', 'b']
                thing.insert(at, item)
                self.same(are_names, thing, False)
            self.same(are_names, [item], False)

    def test_no_lists(self):
        for thing in (None, 0, 1, '', 'a', 'ab', b'', b'a', (), ('a',), ('a', 'b'), {}, {'a': 1}, {'a': 1, 'b': 2},
                      set(), {'a'}, frozenset(), range(0), iter([]), list, object(), Odd(), first()):
            self.same(are_names, thing, False)

    def test_nested_lists(self):
        for thing in ([[]], [['a']], [['a'], ['b']], [[['a']]], ['a', ['b']], nested(20), [[]] * 50000):
            self.same(are_names, thing, False)


if __name__ == '__main__':
    unittest.main()
