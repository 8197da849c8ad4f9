"""Tests of the section "The interface": what exists, where it is defined, and with which arguments."""

import importlib
import inspect
import unittest

FUNCTIONS = {
    'kinds': {'is_integer': '(thing)', 'is_name': '(thing)', 'are_names': '(thing)'},
    'lines': {'is_line': '(roster, thing)', 'keepers': '(roster, line)', 'serve': '(roster, line, desk)',
              'follow': '(roster, line, calls)', 'masters': '(roster, line)', 'taken': '(roster, keepers, desk)'},
    'orders': {'arrange': '(roster, wishes)', 'is_cycle': '(roster, wishes, thing)', 'arrangements': '(roster)'},
    'covers': {'live': '(roster, line)', 'is_cover': '(roster, workers)', 'is_lean': '(roster, workers)',
               'own_desks': '(roster, workers, worker)', 'lean_covers': '(roster, workers)'},
    'settling': {'ends': '(roster, line)', 'is_settled': '(roster, line)', 'settle': '(roster, line, cover)',
                 'lose': '(roster, line, worker)'},
    'reaching': {'must_call': '(roster, line, wishes)', 'is_must_call': '(roster, line, wishes, thing)',
                 'reach': '(roster, line, wishes)'},
    'search': {'find': '(roster, line, wishes, *, limit=400)', 'is_never': '(roster, line, wishes, thing)'},
    'costs': {'price_table': '(roster, line, wishes, prices, *, limit=400)',
              'is_price_table': '(roster, line, wishes, prices, thing)',
              'cheapest': '(roster, line, wishes, prices, *, limit=400)'},
    'logs': {'first_bad': '(roster, log)', 'facts': '(roster, log)', 'servers': '(roster, log, desk)'},
    'counting': {'line_many': '(roster, log)', 'line_of': '(roster, log, number)', 'line_number': '(roster, log, line)'},
}
METHODS = {
    ('rosters', 'Roster'): {'__init__': '(self, workers, desks)', '__eq__': '(self, other)', '__len__': '(self)',
                            'workers': '(self)', 'desks': '(self)', 'crew': '(self, desk)',
                            'desks_of': '(self, worker)', 'cut': '(self, workers)', 'beside': '(self, other)'},
}


class TestInterface(unittest.TestCase):
    def test_functions(self):
        for name, functions in FUNCTIONS.items():
            module = importlib.import_module('deskkeepers.' + name)
            for function, signature in functions.items():
                found = vars(module)[function]
                self.assertEqual(found.__module__, module.__name__)
                self.assertEqual(str(inspect.signature(found)), signature)

    def test_methods_stand_in_the_class_itself(self):
        for (name, owner), methods in METHODS.items():
            module = importlib.import_module('deskkeepers.' + name)
            found = vars(module)[owner]
            self.assertEqual(found.__module__, module.__name__)
            for method, signature in methods.items():
                self.assertEqual(str(inspect.signature(vars(found)[method])), signature)


if __name__ == '__main__':
    unittest.main()
