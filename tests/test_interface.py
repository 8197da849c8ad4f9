"""Tests of the section "The interface": what exists, where it is defined, and with which arguments."""

import importlib
import inspect
import unittest

FUNCTIONS = {
    'kinds': {'is_integer': '(thing)', 'is_name': '(thing)', 'are_names': '(thing)'},
    'lines': {'is_line': '(roster, thing)', 'keepers': '(roster, line)', 'serve': '(roster, line, desk)',
              'follow': '(roster, line, calls)', 'masters': '(roster, line)', 'taken': '(roster, keepers, desk)'},
    'orders': {'arrange': '(roster, wishes)', 'is_cycle': '(roster, wishes, thing)', 'arrangements': '(roster)'},
    'covers': {'live': '(roster, line)', 'is_cover': '(roster, workers)', 'is_lean': '(roster, workers)',
               'own_desks': '(roster, workers, worker)', 'lean_covers': '(roster, workers)'},
    'settling': {'ends': '(roster, line)', 'is_settled': '(roster, line)', 'settle': '(roster, line, cover)',
                 'lose': '(roster, line, worker)'},
    'reaching': {'must_call': '(roster, line, wishes)', 'is_must_call': '(roster, line, wishes, thing)',
                 'reach': '(roster, line, wishes)'},
    'search': {'find': '(roster, line, wishes, *, limit=400)', 'is_never': '(roster, line, wishes, thing)'},
    'costs': {'price_table': '(roster, line, wishes, prices, *, limit=400)',
              'is_price_table': '(roster, line, wishes, prices, thing)',
              'cheapest': '(roster, line, wishes, prices, *, limit=400)'},
    'logs': {'first_bad': '(roster, log)', 'facts': '(roster, log)', 'servers': '(roster, log, desk)'},
    'counting': {'line_many': '(roster, log)', 'line_of': '(roster, log, number)', 'line_number': '(roster, log, line)'},
    'sightings': {'histories': '(roster, seen, *, limit=400)', 'starts_many': '(roster, seen, *, limit=400)'},
    'comparing': {'heads': '(roster, line, many)', 'compare': '(roster, line, other, retirements)',
                  'depth': '(roster, line, worker)', 'nearest': '(roster, line, worker)'},
    'badges': {'compare_badges': '(one, line, badges, other, other_line, other_badges, *, limit=400)',
               'is_agreement': '(one, line, badges, other, other_line, other_badges, thing)'},
    'scripts': {'period': '(roster, line, script, *, limit=1000)', 'after': '(roster, line, script, times, *, limit=1000)',
                'survivors': '(roster, line, script, *, limit=1000)', 'is_period': '(roster, line, script, thing)'},
    'rows': {'fewest_cover': '(roster, row, workers)', 'is_fewest_cover': '(roster, row, workers, thing)',
             'settle_row': '(roster, row, line, cover)', 'lean_many': '(roster, row, workers)',
             'lean_of': '(roster, row, workers, number)', 'lean_number': '(roster, row, workers, cover)',
             'largest_lean': '(roster, row, workers)'},
    'notation': {'show_roster': '(roster)', 'show_deeds': '(deeds)', 'read_roster': '(text)', 'read_deeds': '(text)'},
}
METHODS = {
    ('rosters', 'Roster'): {'__init__': '(self, workers, desks)', '__eq__': '(self, other)', '__len__': '(self)',
                            'workers': '(self)', 'desks': '(self)', 'crew': '(self, desk)',
                            'desks_of': '(self, worker)', 'cut': '(self, workers)', 'beside': '(self, other)'},
    ('pools', 'Pool'): {'__init__': '(self, roster, line)', '__len__': '(self)', 'call': '(self, desk)', 'retire': '(self, worker)',
                        'hire': '(self, worker, desks)', 'late': '(self, at, deed)', 'undo': '(self)', 'redo': '(self)',
                        'log': '(self)', 'servers': '(self)', 'line': '(self)', 'desks': '(self)', 'crew': '(self, desk)',
                        'live': '(self)', 'keepers': '(self)', 'roster': '(self)', 'copied': '(self)'},
    ('console', 'Console'): {'__init__': '(self, roster, line)', 'execute': '(self, line)'},
}


class TestInterface(unittest.TestCase):
    def test_functions(self):
        for name, functions in FUNCTIONS.items():
            module = importlib.import_module('deskkeepers.' + name)
            for function, signature in functions.items():
                found = vars(module)[function]
                self.assertEqual(found.__module__, module.__name__)
                self.assertEqual(str(inspect.signature(found)), signature)

    def test_methods_stand_in_the_class_itself(self):
        for (name, owner), methods in METHODS.items():
            module = importlib.import_module('deskkeepers.' + name)
            found = vars(module)[owner]
            self.assertEqual(found.__module__, module.__name__)
            for method, signature in methods.items():
                self.assertEqual(str(inspect.signature(vars(found)[method])), signature)


if __name__ == '__main__':
    unittest.main()
