"""[2]: how arguments are passed, what becomes of them, and what is returned; a line for each call."""

import copy
import importlib
import unittest

from alwaysnew.knowledge import Knowledge
from alwaysnew.services import Service
from tests.examples import ALL, COUNT, LAST, LATE, NEW, OLD, ONCE, is_new_kind, plain_equal

YESNO = ('no', 'yes')
BOTH = (OLD, NEW)
KNOWN = Knowledge((OLD,), ((0,),)).extended(NEW)
LINE = {'pieces': (ONCE, ALL), 'index': 1, 'new': COUNT, 'states': (1, 0)}
ENOUGH = ('enough', (((0, 0), (0, 1), 0), ((1, 0), (1, 1), 0)))
SAME_STATE, PAIRS = ('alike', ()), ('alike', ((0, 1), (0, 2), (1, 2)))
BOOK = (((0,), 0, (0,), (0, 1)), ((0,), 1, (2,), (1, 1)), ((1,), 0, (1,), (0, 1)), ((1,), 1, (2,), (1, 1)))
WAIT, NEEDS = ('within', (((0, 1), 2), ((1, 2), 1))), (((), ('b',)), ((1, ('b',)),))
HARM, SAME_HARM = ('most', 1, ('a', 'a'), ((0, 1, 2), (1, 2, 1))), ('most', 2, (), ())
SAME = ('same', ((0, 0), (0, 2), (1, 1), (1, 2)))
# Module, function, arguments in their order, keyword-only arguments, and default values if these may be omitted here.
CALLS = (
    ('sameness', 'says_the_same', {'one': OLD, 'other': NEW}, {'quiet': YESNO}, {'quiet': ()}),
    ('sameness', 'parting_past', {'one': OLD, 'other': NEW}, {'quiet': ('no',)}, {'quiet': ()}),
    ('samepapers', 'same_paper', {'one': OLD, 'other': NEW}, {'quiet': YESNO}, {'quiet': ()}),
    ('samechecker', 'lets_same', {'one': OLD, 'other': NEW, 'thing': SAME}, {'quiet': YESNO}, {}),
    ('samechecker', 'lets_same', {'one': OLD, 'other': NEW, 'thing': ('apart', ('b',))}, {}, {'quiet': ()}),
    ('quietwords', 'words_said', {'machine': NEW}, {}, {}),
    ('quietwords', 'parting_words', {'machine': NEW, 'one': 1, 'other': 2}, {}, {}),
    ('standings', 'standing_after', {'versions': BOTH, 'past': ('a', 'b')}, {}, {}),
    ('standings', 'reached_standings', {'versions': BOTH}, {}, {}),
    ('standings', 'past_to_standing', {'versions': BOTH, 'standing': (1, 2)}, {}, {}),
    ('standings', 'standings_led', {'versions': BOTH, 'standings': ((0, 0), (0, 2)), 'reading': ('b',)}, {}, {}),
    ('knowledge', 'Knowledge', {'versions': BOTH, 'standings': ((1, 2), (0, 0))}, {}, {}),
    ('readiness', 'true_states', {'k': KNOWN, 'i': 1}, {'quiet': YESNO}, {'quiet': ()}),
    ('readiness', 'is_true', {'k': KNOWN, 'i': 1, 't': 0}, {'quiet': YESNO}, {'quiet': ()}),
    ('readiness', 'is_ready', {'k': KNOWN, 'i': 1}, {'quiet': YESNO}, {'quiet': ()}),
    ('readiness', 'ready_versions', {'k': KNOWN}, {'quiet': YESNO}, {'quiet': ()}),
    ('linepapers', 'line_paper', {**LINE, 'setting': (0,)}, {'quiet': ('x',)}, {'free': (), 'quiet': ()}),
    ('linepapers', 'line_paper', {**LINE, 'setting': (0, 1)}, {'free': (0,), 'quiet': ('x',)}, {}),
    ('linechecker', 'lets_line', {**LINE, 'setting': (1,), 'thing': ('true', ())}, {}, {'free': (), 'quiet': ()}),
    ('linechecker', 'lets_line', {**LINE, 'setting': (0, 1), 'thing': ('true', (((1, 0), (1, 1)),))}, {'free': (0,)},
     {}),
    ('truthpapers', 'truth_paper', {'k': KNOWN, 'i': 1, 't': 0}, {'quiet': YESNO}, {'quiet': ()}),
    ('truthchecker', 'lets_truth', {'k': KNOWN, 'i': 1, 't': 0, 'thing': ('wrong', ('b',), ('b',))}, {}, {'quiet': ()}),
    ('truthchecker', 'lets_truth', {'k': KNOWN, 'i': 1, 't': 0, 'thing': ('true', (SAME_STATE, PAIRS))},
     {'quiet': YESNO}, {}),
    ('tails', 'least_tail', {'old': OLD, 'new': NEW}, {'quiet': YESNO}, {'quiet': ()}),
    ('tailpapers', 'tail_paper', {'old': OLD, 'new': LAST}, {'quiet': ('x',)}, {'quiet': ()}),
    ('tailchecker', 'lets_tail', {'old': OLD, 'new': LAST, 'thing': ENOUGH}, {'quiet': ('x',)}, {'quiet': ()}),
    ('notebooks', 'least_notes', {'versions': BOTH, 'hand': (0,), 'wanted': (1,)}, {'quiet': YESNO}, {'quiet': ()}),
    ('notebooks', 'notebook', {'versions': BOTH, 'hand': (0,), 'wanted': (1,)}, {'quiet': YESNO}, {'quiet': ()}),
    ('notebooks', 'note_after', {'versions': BOTH, 'hand': (0,), 'book': BOOK, 'past': ('a', 'b')}, {}, {}),
    ('notepapers', 'needs_paper', {'versions': BOTH, 'hand': (0,), 'wanted': (1,)}, {'quiet': YESNO}, {'quiet': ()}),
    ('versionchecker', 'lets_versions', {'thing': BOTH}, {}, {}),
    ('waiting', 'soonest', {'machine': LATE, 'states': (0, 1)}, {'quiet': ('x',)}, {'quiet': ()}),
    ('waiting', 'latest', {'machine': LATE, 'states': (0, 1)}, {'quiet': ('x',)}, {'quiet': ()}),
    ('harm', 'harm_of', {'machine': LATE, 'one': 0, 'states': (1, 2)}, {'quiet': ('x',)}, {'quiet': ()}),
    ('harm', 'least_harm', {'machine': LATE, 'states': (0, 1)}, {'quiet': ('x',)}, {'quiet': ()}),
    ('harm', 'heals_within', {'machine': LATE, 'one': 0, 'states': (1, 2)}, {'quiet': ('x',)}, {'quiet': ()}),
    ('harmpapers', 'harm_paper', {'machine': LATE, 'one': 0, 'states': (1, 2)}, {'quiet': ('x',)}, {'quiet': ()}),
    ('choosing', 'sure_harm', {'machine': LATE, 'states': (0, 1), 'many': 1}, {'quiet': ('x',)}, {'quiet': ()}),
    ('choosing', 'best_wait', {'machine': LATE, 'states': (0, 1)}, {'quiet': ('x',)}, {'quiet': ()}),
    ('choicepapers', 'choice_paper', {'machine': LATE, 'states': (0, 1), 'many': 1}, {'quiet': ('x',)}, {'quiet': ()}),
    ('quietsets', 'least_quiet', {'machine': LATE, 'states': (0, 1)}, {'most': 1}, {'most': 0}),
    ('quietpapers', 'quiet_paper', {'machine': LATE, 'states': (0, 1), 'words': ('x', 'y')}, {'most': 0}, {'most': 0}),
    ('quietpapers', 'quiet_paper', {'machine': LATE, 'states': (0, 1), 'words': ('x',)}, {'most': 1}, {'most': 0}),
    ('waitpapers', 'wait_paper', {'machine': LATE, 'states': (0, 1)}, {'quiet': ('x',)}, {'quiet': ()}),
    ('waitchecker', 'lets_wait', {'machine': LATE, 'states': (0, 1), 'thing': WAIT}, {'quiet': ('x',)}, {'quiet': ()}),
    ('notechecker', 'lets_notebook', {'versions': BOTH, 'hand': (0,), 'wanted': (1,), 'thing': BOOK},
     {'quiet': ('maybe',)}, {'quiet': ()}),
    ('notechecker', 'lets_needs', {'versions': BOTH, 'hand': (0,), 'wanted': (1,), 'thing': NEEDS},
     {'quiet': ('yes',)}, {'quiet': ()}),
    ('harmchecker', 'lets_harm', {'machine': LATE, 'one': 0, 'states': (0, 1), 'thing': HARM}, {'quiet': ('z',)},
     {'quiet': ()}),
    ('choicechecker', 'lets_choice', {'machine': LATE, 'states': (0, 1), 'many': 3, 'thing': ((3, (0, 1), (0, HARM)),)},
     {'quiet': ('z',)}, {'quiet': ()}),
    ('quietchecker', 'lets_quiet', {'machine': LATE, 'states': (0, 1), 'words': (), 'thing': (0, HARM, ())},
     {'most': 2}, {}),
    ('quietchecker', 'lets_quiet', {'machine': LATE, 'states': (2,), 'words': (), 'thing': (2, SAME_HARM, ())}, {},
     {'most': 0}),
    ('services', 'Service', {'machine': NEW}, {'quiet': YESNO}, {'quiet': ()}),
    ('replaying', 'is_log', {'thing': (('service', OLD, ()), ('read', 'z'))}, {}, {}),
    ('replaying', 'replayed', {'log': (('service', OLD, ()), ('read', 'a'))}, {}, {}),
)


class EverywhereTest(unittest.TestCase):
    def test_each_call(self):
        for module, name, args, named, defaults in CALLS:
            call = getattr(importlib.import_module('alwaysnew.' + module), name)
            with self.subTest(name):
                before = copy.deepcopy((args, named))
                found = call(*args.values(), **named)
                turned = dict(reversed([*args.items(), *named.items()]))
                self.assertTrue(plain_equal(call(**turned), found))
                self.assertTrue(plain_equal(call(**args, **named), found))
                if defaults:
                    self.assertTrue(plain_equal(call(*args.values()), call(**defaults, **args)))
                self.assertTrue(isinstance(found, (Knowledge, Service)) or is_new_kind(found))
                self.assertEqual((args, named), before)
                self.assertRaises(TypeError, call, *args.values(), *named.values(), ())
                self.assertRaises(TypeError, call, **args, more=1)

    def test_methods_of_knowledge_change_nothing(self):
        machines = list(BOTH)
        for call in (lambda k: k('b'), lambda k: k.after('a', 'b'), lambda k: k.extended(LAST),
                     lambda k: k.extended(machine=LAST, tail=('a',)), lambda k: k.forgotten(0), lambda k: k.cut(('b',)),
                     lambda k: k | Knowledge.begun(*machines), lambda k: k & k, lambda k: k.lies_in(other=k),
                     lambda k: k.places(i=1), lambda k: k.allows(past=('a',))):
            k = Knowledge.any_past(*machines)
            other = copy.deepcopy(k)
            found = call(k)
            self.assertTrue(k == other and k.versions == BOTH and machines == list(BOTH))
            self.assertTrue(plain_equal(call(k), found))


if __name__ == '__main__':
    unittest.main()
