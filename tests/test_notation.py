"""Tests of [95] and [96]."""

import re
import unittest
from random import Random

from deskkeepers.errors import NoText
from deskkeepers.notation import read_deeds, read_roster, show_deeds, show_roster
from deskkeepers.rosters import Roster
from modelpool import random_deed
from plain import Case
from samples import Odd, content, first, mixed_rosters, names, nested, odd_values, ring, small_rosters, wide

SIGNS = [chr(code) for code in range(32, 127) if chr(code) != '%'] + ['\n']
NAME = re.compile('[a-z]{1,8}')
DEEDS = [('call', 'ab'), ('hire', 'cid', []), ('retire', 'ann'), ('hire', 'dan', ['c', 'ab']), ('hire', 'eve', ['c']), ('call', 'ab')]


def some_rosters():
    """Rosters of all sizes."""
    return [first(), ring(), wide(), Roster(['a'], []), Roster(names(40), []), Roster(['a'], [('b', ['a'])]), *small_rosters(), *mixed_rosters(6, 4, 5),
            Roster(names(40), [(name, names(40)) for name in names(60, 'd')]), Roster(['desk', 'workers'], [('desk', ['workers', 'desk']), ('call', ['desk'])]),
            Roster(['abcdefgh', 'b', 'a', 'ab', 'aa'], [('zyxwvuts', ['b', 'ab']), ('z', ['aa', 'a']), ('zy', ['abcdefgh'])])]


def are_ascending(words):
    """Whether the words are different names in ascending order, at least one."""
    return len(words) > 0 and all(NAME.fullmatch(word) for word in words) and all(one < other for one, other in zip(words, words[1:]))


def is_roster_text(text):
    """Whether the text writes a roster, by the words of [95]."""
    first_line, *lines = [line.split(' ') for line in text.split('\n')]
    if first_line[0] != 'workers' or not are_ascending(first_line[1:]) or len(first_line) > 41 or len(lines) > 60:
        return False
    if not all(words[0] == 'desk' and are_ascending(words[2:]) and set(words[2:]) <= set(first_line[1:]) for words in lines):
        return False
    return lines == [] or are_ascending([words[1] for words in lines])


def is_deed_text(line):
    """Whether the line writes a deed, by the words of [95]."""
    words = line.split(' ')
    if words[0] in ('call', 'retire'):
        return len(words) == 2 and bool(NAME.fullmatch(words[1]))
    if words[0] != 'hire' or len(words) < 3 or not NAME.fullmatch(words[1]):
        return False
    return words[2:] == ['-'] or all(NAME.fullmatch(word) for word in words[2:]) and len(set(words[2:])) == len(words[2:])


def is_deeds_text(text):
    """Whether the text writes at most 200 deeds, by the words of [95]."""
    lines = text.split('\n')
    return text == '' or len(lines) <= 200 and all(is_deed_text(line) for line in lines)


def changed_by_a_sign(text):
    """All texts that one sign more, fewer or changed makes of a text."""
    found = [text[:at] + sign + text[at + more:] for at in range(len(text) + 1) for more in (0, 1) for sign in SIGNS]
    return found + [text[:at] + text[at + 1:] for at in range(len(text))]


def changed_by_parts(parts, joint, others):
    """All texts that one part more, fewer, changed or moved makes of joined parts."""
    found = []
    for at in range(len(parts) + 1):
        for part in [*others, *parts]:
            found += [[*parts[:at], part, *parts[at:]], [*parts[:at], part, *parts[at + 1:]]]
        found += [[*parts[:at], *parts[at + 1:]]]
        found += [[*parts[:at], *parts[at + 1:][:step], *parts[at:at + 1], *parts[at + 1:][step:]] for step in range(1, 4)]
    return [joint.join(part) for part in found]


def changed(text, others):
    """Texts that are like a text."""
    lines = text.split('\n')
    found = changed_by_a_sign(text) + changed_by_parts(lines, '\n', ['', ' ', 'desk', 'workers a', 'desk zz a', 'call x', '-', 'hire x -'])
    for at, line in enumerate(lines):
        for changed_line in changed_by_parts(line.split(' '), ' ', others):
            found.append('\n'.join([*lines[:at], changed_line, *lines[at + 1:]]))
    return found


class TestRosters(Case):
    def test_there_and_back(self):
        for roster in some_rosters():
            text = self.steady(show_roster, roster)
            self.assertIs(type(text), str)
            wanted = ' '.join(['workers', *roster.workers()])
            for desk in roster.desks():
                wanted += '\n' + ' '.join(['desk', desk, *roster.crew(desk)])
            self.assertEqual(text, wanted)
            self.assertTrue(is_roster_text(text))
            back = read_roster(text)
            self.assertIs(type(back), Roster)
            self.assertTrue(back == roster)
            self.assertEqual(content(back), content(roster))
            self.assertEqual(show_roster(read_roster(text)), text)

    def check(self, text):
        """The text is read if it is right by the words of [95], and refused with NoText if not."""
        if is_roster_text(text):
            self.assertEqual(show_roster(read_roster(text)), text)
            return True
        self.raises(NoText(), read_roster, text)
        return False

    def test_texts_that_are_like_right_ones(self):
        found = set()
        others = ['', '-', 'a', 'b', 'cc', 'zz', 'A', 'desk', 'workers', 'call', 'abcdefgh', 'abcdefghi', 'a1', '0']
        for roster in (first(), ring(), Roster(['a'], []), Roster(['a', 'b'], [('x', ['a', 'b'])]), Roster(['desk', 'workers'], [('desk', ['desk'])]),
                       small_rosters()[40]):
            for text in changed(show_roster(roster), others):
                found.add(self.check(text))
        self.assertEqual(found, {True, False})

    def test_blanks_and_line_feeds(self):
        for text in ('', ' ', '\n', 'workers', 'workers ', 'workers -', 'workers a ', ' workers a', 'workers  a', 'workers a  b', 'workers a\n', '\nworkers a',
                     'workers a\n\ndesk x a', 'workers a\n desk x a', 'workers a\ndesk x a ', 'workers a\ndesk x a\n', 'workers a\ndesk  x a', 'workers a\ndesk x  a',
                     'workers a \ndesk x a', 'workers a\ndesk x', 'workers a\ndesk', 'workers a\ndesk x -', 'workers a\ndesk x ', 'workers a desk x a',
                     'Workers a', 'worker a', 'desk x a', 'workers a\nworkers b', 'workers a\ndesks x a', 'workers a\ncall x', 'workers a;desk x a', 'a',
                     'workers a\ndesk x a\ndesk x a', 'workers a\ndesk y a\ndesk x a', 'workers b a', 'workers a a', 'workers a b\ndesk x b a',
                     'workers a b\ndesk x a a', 'workers a b\ndesk x c', 'workers a b\ndesk x a c', 'workers a-b', 'workers a,b', 'workers a\ndesk - a'):
            self.assertFalse(is_roster_text(text))
            self.raises(NoText(), read_roster, text)

    def test_sizes(self):
        for workers in (1, 39, 40, 41, 60):
            for desks in (0, 1, 59, 60, 61):
                lines = ['workers ' + ' '.join(names(workers)), *['desk ' + name + ' waa' for name in names(desks, 'd')]]
                self.assertIs(self.check('\n'.join(lines)), workers <= 40 and desks <= 60)
        self.assertFalse(self.check('workers ' + ' '.join(names(676) * 10)))
        self.assertFalse(self.check('workers waa' + '\ndesk x waa' * 5000))
        self.assertFalse(self.check('workers ' + 'a' * 40000))

    def test_other_values(self):
        for value in odd_values() + [b'workers a', ['workers a'], ('workers', 'a'), {'workers': 'a'}, Roster, nested(20), Odd()]:
            self.raises(NoText(), read_roster, value)
            if value != '' or type(value) is not str:
                self.raises(NoText(), read_deeds, value)

    def test_by_turns(self):
        self.by_turns(show_roster, [(first(),), (ring(),), (Roster(['a'], []),)])
        self.by_turns(read_roster, [('workers a b\ndesk x a b',), ('workers a',), ('workers a b\ndesk x b',)])


class TestDeeds(Case):
    def test_there_and_back(self):
        chance = Random(4)
        lists = [[], DEEDS, *[[deed] for deed in DEEDS], DEEDS * 33, [('hire', 'a', names(60, 'd'))] * 200, [('call', 'call'), ('retire', 'hire')]]
        for many in range(12):
            lists.append([random_deed(chance, names(20), names(6, 'd')) for _ in range(many * 15)])
        for deeds in lists:
            text = self.steady(show_deeds, deeds)
            self.assertIs(type(text), str)
            wanted = [' '.join([deed[0], deed[1], *((deed[2] or ['-']) if len(deed) == 3 else [])]) for deed in deeds]
            self.assertEqual(text, '\n'.join(wanted))
            self.assertTrue(is_deeds_text(text))
            self.assertEqual(self.steady(read_deeds, text), deeds)

    def check(self, text):
        """The text is read if it is right by the words of [95], and refused with NoText if not."""
        if is_deeds_text(text):
            self.assertEqual(show_deeds(read_deeds(text)), text)
            return True
        self.raises(NoText(), read_deeds, text)
        return False

    def test_texts_that_are_like_right_ones(self):
        found = set()
        others = ['', '-', 'a', 'c', 'zz', 'A', 'call', 'retire', 'hire', 'late', 'undo', '0', 'abcdefgh', 'abcdefghi', 'a1']
        for deeds in ([], DEEDS, DEEDS[:1], DEEDS[1:2], DEEDS[2:4], [('call', 'hire'), ('hire', 'call', ['call', 'hire'])]):
            for text in changed(show_deeds(deeds), others):
                found.add(self.check(text))
        self.assertEqual(found, {True, False})

    def test_blanks_line_feeds_and_numbers_of_deeds(self):
        self.assertEqual(read_deeds(''), [])
        for text in (' ', '\n', 'call', 'call ', 'call  a', ' call a', 'call a ', 'call a\n', '\ncall a', 'call a\n\ncall a', 'call a b', 'call -', 'Call a', 'call A',
                     'retire', 'retire -', 'retire a b', 'retire a -', 'hire', 'hire a', 'hire a ', 'hire - -', 'hire a - -', 'hire a - b', 'hire a b -', 'hire a b b',
                     'hire a  b', 'hire a b ', 'hire a b  c', 'undo', 'redo', 'late 0 call a', 'call a;call b', 'call a\n-', '-', 'hire a b,c', 'call 0'):
            self.assertFalse(is_deeds_text(text))
            self.raises(NoText(), read_deeds, text)
        for many in (199, 200, 201, 300):
            for line in ('call a', 'hire a -', 'hire a c b'):
                self.assertIs(self.check('\n'.join([line] * many)), many <= 200)

    def test_new_lists(self):
        found = read_deeds('hire a b\nhire a b')
        found[0][2].append('c')
        self.assertEqual([found[1], read_deeds('hire a b')], [('hire', 'a', ['b']), [('hire', 'a', ['b'])]])

    def test_by_turns(self):
        self.by_turns(show_deeds, [(DEEDS,), ([],), (DEEDS[2:],)])
        self.by_turns(read_deeds, [('call a\nhire b -',), ('',), ('hire b c',)])


if __name__ == '__main__':
    unittest.main()
