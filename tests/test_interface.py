"""The interface: each name stands in its file, with its parameters in their order."""

import importlib
import inspect
import unittest

FUNCTIONS = {
    'kinds': {name: '(thing)' for name in ('is_integer', 'is_number', 'is_name', 'is_word', 'is_letters', 'is_reading',
                                           'is_quiet')},
    'machinechecker': {'lets_machine': '(thing)'},
    'running': {'led': '(machine, reading, *, state=0)', 'said': '(machine, reading, *, state=0, quiet=())',
                'step': '(machine, state, letter)', 'reached_states': '(machine)', 'past_to': '(machine, state)',
                'walked': '(machine)', 'quieted': '(machine, words)'},
    'alikechecker': {'lets_alike': '(machine, one, other, thing, *, quiet=())'},
    'lines': {'line_step': '(pieces, states, letter)', 'line_standing': '(pieces, past)'},
    'machinetexts': {'machine_text': '(machine)', 'reading_text': '(reading)'},
    'eventtexts': {'event_line': '(event)', 'log_lines': '(log)'},
    'machinereadings': {'machine_read': '(text)', 'reading_read': '(text)'},
    'eventreadings': {'read_event': '(text)', 'read_log': '(lines)'},
    'machinetables': {'machine_table': '(machine)'},
    'alikeness': {'are_alike': '(machine, one, other, *, quiet=())', 'classes_of': '(machine, *, quiet=())',
                  'parting_reading': '(machine, one, other, *, quiet=())'},
    'alikepapers': {'alike_paper': '(machine, one, other, *, quiet=())'},
    'least': {'least_machine': '(machine, *, quiet=())', 'is_least': '(machine)'},
    'linesettings': {'new_standings': '(pieces, index, new, states)',
                     'places_in_line': '(pieces, index, new, states, *, free=(), quiet=())'},
    'sameness': {'says_the_same': '(one, other, *, quiet=())', 'parting_past': '(one, other, *, quiet=())'},
    'samepapers': {'same_paper': '(one, other, *, quiet=())'},
    'samechecker': {'lets_same': '(one, other, thing, *, quiet=())'},
    'quietwords': {'words_said': '(machine)', 'parting_words': '(machine, one, other)'},
    'standings': {'standing_after': '(versions, past)', 'reached_standings': '(versions)',
                  'past_to_standing': '(versions, standing)', 'standings_led': '(versions, standings, reading)'},
    'readiness': {'true_states': '(k, i, *, quiet=())', 'is_true': '(k, i, t, *, quiet=())',
                  'is_ready': '(k, i, *, quiet=())', 'ready_versions': '(k, *, quiet=())'},
    'truthpapers': {'truth_paper': '(k, i, t, *, quiet=())'},
    'truthchecker': {'lets_truth': '(k, i, t, thing, *, quiet=())'},
    'tails': {'least_tail': '(old, new, *, quiet=())'},
    'tailpapers': {'tail_paper': '(old, new, *, quiet=())'},
    'tailchecker': {'lets_tail': '(old, new, thing, *, quiet=())'},
    'linechecker': {'lets_line': '(pieces, index, new, states, setting, thing, *, free=(), quiet=())'},
    'notebooks': {'least_notes': '(versions, hand, wanted, *, quiet=())',
                  'notebook': '(versions, hand, wanted, *, quiet=())',
                  'note_after': '(versions, hand, book, past)'},
    'notepapers': {'needs_paper': '(versions, hand, wanted, *, quiet=())'},
    'linepapers': {'line_paper': '(pieces, index, new, states, setting, *, free=(), quiet=())'},
    'versionchecker': {'lets_versions': '(thing)'},
    'waiting': {'soonest': '(machine, states, *, quiet=())', 'latest': '(machine, states, *, quiet=())'},
    'harm': {'harm_of': '(machine, one, states, *, quiet=())', 'least_harm': '(machine, states, *, quiet=())',
             'heals_within': '(machine, one, states, *, quiet=())'},
    'harmpapers': {'harm_paper': '(machine, one, states, *, quiet=())'},
    'choosing': {'sure_harm': '(machine, states, many, *, quiet=())', 'best_wait': '(machine, states, *, quiet=())'},
    'choicepapers': {'choice_paper': '(machine, states, many, *, quiet=())'},
    'quietsets': {'least_quiet': '(machine, states, *, most=0)'},
    'quietpapers': {'quiet_paper': '(machine, states, words, *, most=0)'},
    'waitpapers': {'wait_paper': '(machine, states, *, quiet=())'},
    'waitchecker': {'lets_wait': '(machine, states, thing, *, quiet=())'},
    'notechecker': {'lets_notebook': '(versions, hand, wanted, thing, *, quiet=())',
                    'lets_needs': '(versions, hand, wanted, thing, *, quiet=())'},
    'harmchecker': {'lets_harm': '(machine, one, states, thing, *, quiet=())'},
    'choicechecker': {'lets_choice': '(machine, states, many, thing, *, quiet=())'},
    'quietchecker': {'lets_quiet': '(machine, states, words, thing, *, most=0)'},
    'replaying': {'is_log': '(thing)', 'replayed': '(log)'},
}
CLASSES = {
    'errors': {'NewError': {}, 'PaperError': {}, 'MachineError': {}, 'ServiceError': {}, 'TextError': {},
               'InvalidPaper': {'__init__': '(self, word, at)'}, 'InvalidLetter': {'__init__': '(self, letter)'},
               'InvalidState': {'__init__': '(self, state)'}, 'InvalidBox': {'__init__': '(self, word, at)'},
               'InvalidKnowledge': {'__init__': '(self, word, at)'}, 'NotReached': {'__init__': '(self, standing)'},
               'InvalidEvent': {'__init__': '(self, event, reason)'}, 'NothingToUndo': {'__init__': '(self, steps)'},
               'InvalidText': {'__init__': '(self, line, field)'}, 'InvalidRow': {'__init__': '(self, row)'}},
    'boxes': {'Box': {'__init__': '(self, machine)', 'machine': 'property', 'letters': 'property', '__len__': '(self)',
                      '__contains__': '(self, thing)', '__getitem__': '(self, state)', '__call__': '(self, past)',
                      'after': '(self, past)', '__or__': '(self, other)', '__eq__': '(self, other)',
                      'pasts': '(self)', '__str__': '(self)', 'parsed': 'classmethod (cls, text)',
                      'silent': 'staticmethod (*letters)'},
              'Line': {'__init__': '(self, *boxes)', 'parts': 'property'},
              'Every': {'__init__': '(self, letters, many, word)'}, 'Echo': {'__init__': '(self, letters)'},
              'Once': {'__init__': '(self, letters, letter, word)'}, 'Renamed': {'__init__': '(self, box, **names)'},
              'Quiet': {'__init__': '(self, box, *words)'}, 'Spelled': {'__init__': '(self, box, table)'}},
    'knowledge': {'Knowledge': {'__init__': '(self, versions, standings)', 'versions': 'property',
                                'standings': 'property', '__len__': '(self)', '__contains__': '(self, thing)',
                                '__eq__': '(self, other)', 'places': '(self, i)', 'allows': '(self, past)',
                                'begun': 'staticmethod (*machines)', 'any_past': 'staticmethod (*machines)',
                                '__call__': '(self, letter)', 'after': '(self, *letters)',
                                'extended': '(self, machine, *, tail=())', 'forgotten': '(self, i)',
                                'cut': '(self, tail)', '__or__': '(self, other)', '__and__': '(self, other)',
                                'lies_in': '(self, other)'}},
    'services': {'Service': {'__init__': '(self, machine, *, quiet=())', 'versions': 'property',
                             'knowledge': 'property', 'live': 'property', 'live_state': 'property',
                             'quiet': 'property', 'is_true': 'property', 'ready': 'property', 'memory': 'property',
                             'read': '(self, letter)', 'plan': '(self, machine)', 'replace': '(self, version)',
                             'force': '(self, version, target)', 'forget': '(self, version)',
                             'set_quiet': '(self, words)', 'go': '(self, event)', '__call__': '(self, letter)',
                             '__getitem__': '(self, version)', '__contains__': '(self, thing)', '__len__': '(self)',
                             '__eq__': '(self, other)', '__str__': '(self)', 'tried': '(self, *events)',
                             'undo': '(self)', 'do_all': '(self, *events, keep=False)', 'counts': '(self)',
                             'wrongs': '(self)', 'table': '(self)', 'soonest_reading': '(self, version)',
                             'latest_wait': '(self, version)', 'heal_time': '(self)', 'harm_now': '(self, version)',
                             'quiet_needed': '(self, version, *, most=0)', 'log': '(self)'}},
    'desk': {'Desk': {'__init__': '(self)', 'say': '(self, row)', 'counts': '(self)'}},
}


class InterfaceTest(unittest.TestCase):
    def test_functions(self):
        for name, functions in FUNCTIONS.items():
            module = importlib.import_module('alwaysnew.' + name)
            for function, parameters in functions.items():
                with self.subTest(function):
                    found = vars(module)[function]
                    self.assertTrue(inspect.isfunction(found))
                    self.assertEqual(found.__module__, module.__name__)
                    self.assertEqual(str(inspect.signature(found)), parameters)

    def test_classes_and_their_methods(self):
        for name, classes in CLASSES.items():
            module = importlib.import_module('alwaysnew.' + name)
            for kind, methods in classes.items():
                found = vars(module)[kind]
                self.assertEqual((inspect.isclass(found), found.__module__), (True, module.__name__))
                for method, parameters in methods.items():
                    with self.subTest(kind + '.' + method):
                        self.check_method(vars(found)[method], parameters)

    def check_method(self, method, parameters):
        if parameters == 'property':
            self.assertIs(type(method), property)
            self.assertIsNone(method.fset)
            return
        if isinstance(method, (staticmethod, classmethod)):
            parameters = parameters.removeprefix(type(method).__name__ + ' ')
            method = method.__func__
        self.assertEqual(str(inspect.signature(method)), parameters)


if __name__ == '__main__':
    unittest.main()
