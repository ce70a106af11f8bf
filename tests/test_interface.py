"""The interface: each name stands in its file, with its parameters in their order."""

import importlib
import inspect
import unittest

FUNCTIONS = {
    'kinds': {name: '(thing)' for name in ('is_integer', 'is_number', 'is_name', 'is_word', 'is_letters', 'is_reading',
                                           'is_quiet')},
    'machinechecker': {'lets_machine': '(thing)'},
    'running': {'led': '(machine, reading, *, state=0)', 'said': '(machine, reading, *, state=0, quiet=())',
                'step': '(machine, state, letter)', 'reached_states': '(machine)', 'past_to': '(machine, state)',
                'walked': '(machine)', 'quieted': '(machine, words)'},
    'alikechecker': {'lets_alike': '(machine, one, other, thing, *, quiet=())'},
    'lines': {'line_step': '(pieces, states, letter)', 'line_standing': '(pieces, past)'},
    'machinetexts': {'machine_text': '(machine)', 'reading_text': '(reading)'},
    'eventtexts': {'event_line': '(event)', 'log_lines': '(log)'},
}
CLASSES = {
    'errors': {'NewError': {}, 'PaperError': {}, 'MachineError': {}, 'ServiceError': {}, 'TextError': {},
               'InvalidPaper': {'__init__': '(self, word, at)'}, 'InvalidLetter': {'__init__': '(self, letter)'},
               'InvalidState': {'__init__': '(self, state)'}, 'InvalidBox': {'__init__': '(self, word, at)'},
               'InvalidKnowledge': {'__init__': '(self, word, at)'}, 'NotReached': {'__init__': '(self, standing)'},
               'InvalidEvent': {'__init__': '(self, event, reason)'}, 'NothingToUndo': {'__init__': '(self, steps)'},
               'InvalidText': {'__init__': '(self, line, field)'}, 'InvalidRow': {'__init__': '(self, row)'}},
}


class InterfaceTest(unittest.TestCase):
    def test_functions(self):
        for name, functions in FUNCTIONS.items():
            module = importlib.import_module('alwaysnew.' + name)
            for function, parameters in functions.items():
                with self.subTest(function):
                    found = vars(module)[function]
                    self.assertTrue(inspect.isfunction(found))
                    self.assertEqual(found.__module__, module.__name__)
                    self.assertEqual(str(inspect.signature(found)), parameters)

    def test_classes_and_their_methods(self):
        for name, classes in CLASSES.items():
            module = importlib.import_module('alwaysnew.' + name)
            for kind, methods in classes.items():
                found = vars(module)[kind]
                self.assertEqual((inspect.isclass(found), found.__module__), (True, module.__name__))
                for method, parameters in methods.items():
                    with self.subTest(kind + '.' + method):
                        self.check_method(vars(found)[method], parameters)

    def check_method(self, method, parameters):
        if parameters == 'property':
            self.assertIs(type(method), property)
            self.assertIsNone(method.fset)
            return
        if isinstance(method, (staticmethod, classmethod)):
            parameters = parameters.removeprefix(type(method).__name__ + ' ')
            method = method.__func__
        self.assertEqual(str(inspect.signature(method)), parameters)


if __name__ == '__main__':
    unittest.main()
