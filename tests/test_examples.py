"""The worked examples of the document, as they stand."""

import unittest

from tearwords import errors

EXAMPLES = [
    r"""
>>> from tearwords.machines import first_words, has_word
>>> machine = ('ab', ((0, 1), (1, 0)), (0,))
>>> [has_word(machine, 'ab'), first_words(machine, 6)]
[False, ['', 'a', 'aa', 'bb', 'aaa', 'abb']]
""",
    r"""
>>> from tearwords.tears import readings_of, tear
>>> [tear(('faded', 1, 2), 'abba', 1, 2), tear(('open', 0, 1), 'ab', 2, 0), readings_of(('closed', 1, 1), 'aab'), readings_of(('doubled', 1, 1), 'ab')]
['a??a', 'ab*', ['aa', 'ab'], ['aab', 'abb']]
""",
    r"""
>>> from tearwords.fitting import count_fits, fits, restored
>>> machine = ('ab', ((0, 1), (1, 0)), (0,))
>>> rule = ('closed', 1, 1)
>>> [fits(machine, rule, ['bb'], 5), count_fits(machine, rule, ['bb']), restored(machine, rule, 'a')]
[['abb', 'bab', 'bba'], 3, 'aa']
""",
    r"""
>>> from tearwords.pairs import confused, is_sure
>>> machine = ('ab', ((0, 1), (1, 0)), (0,))
>>> told = confused(machine, ('closed', 1, 1))
>>> [is_sure(machine, ('closed', 1, 1)), len(told[0] + told[1]), is_sure(machine, ('faded', 1, 1))]
[False, 6, True]
""",
    r"""
>>> from tearwords.books import book_of, moves_of, shows_book
>>> machine = ('ab', ((0, 1), (1, 0)), (0,))
>>> [moves_of(machine, ('open', 0, 1), ('whole', 0, '')), book_of(machine, ('closed', 1, 1)), shows_book(machine, ('faded', 1, 1), [])]
[[('*', '', ('torn', 0, '')), ('*', 'a', ('torn', 0, '')), ('*', 'b', ('torn', 1, '')), ('a', 'a', ('whole', 0, '')), ('b', 'b', ('whole', 1, ''))], None, False]
""",
    r"""
>>> from tearwords.hints import hinted, least_hint
>>> machine = ('ab', ((0, 1), (1, 0)), (0,))
>>> [hinted(('last', 2), 'abc'), least_hint(machine, ('faded', 1, 1), 'first'), least_hint(machine, ('closed', 1, 1), 'first')]
['bc', 0, None]
""",
    r"""
>>> from tearwords.sums import best_check, check_sum, differences
>>> machine = ('ab', ((1, 2), (None, 3), (3, None), (None, None)), (3,))
>>> [differences(machine, ('closed', 1, 1)), best_check(machine, ('closed', 1, 1)), check_sum(machine, (3, (1, 2)), 'abb')]
[[(0, 0)], None, 2]
""",
    r"""
>>> from tearwords.safety import greatest_most, rival_of
>>> machine = ('ab', ((0, 1), (1, 0)), (0,))
>>> [greatest_most(machine, 'faded', 1), rival_of(machine, ('faded', 1, 2), 'aa'), rival_of(machine, ('faded', 1, 2), 'a')]
[1, ('bb', '??'), None]
""",
    r"""
>>> from tearwords.kinds import as_closed, as_open
>>> [as_closed(('doubled', 1, 1), 'aab', 'abb', 'aabb'), as_open(('faded', 1, 1), 'aa', 'ab', 'a?')]
['ab', 'a*']
""",
    r"""
>>> from tearwords.desks import Desk
>>> machine = ('ab', ((0, 1), (1, 0)), (0,))
>>> desk = Desk(machine, ('closed', 1, 1))
>>> [desk.admit('abb'), desk.ask('bb'), desk.admit('bab'), desk.ask('bb'), desk.rivals(), desk.ask('aa')]
[None, ('certain', 'abb'), None, ('doubtful', ['abb', 'bab']), [('abb', 'bab')], ('foreign',)]
""",
    r"""
>>> from tearwords.desks import Desk
>>> machine = ('ab', ((0, 1), (1, 0)), (0,))
>>> desk = Desk(machine, ('closed', 1, 1), guarded=True)
>>> desk.admit('abb')
>>> desk.admit('bab')
raises Rivals
""",
    r"""
>>> from tearwords.desks import Desk, trial
>>> machine = ('ab', ((0, 1), (1, 0)), (0,))
>>> trial(Desk(machine, ('open', 0, 1)), [('admit', 'aa'), [('strike', 'aa'), 'undo'], ('ask', 'a*')])
[1, [0, 1], ('certain', 'aa')]
""",
]


def steps_of(text):
    """The list of (code, what is written below it) of an example."""
    steps = []
    for line in text.strip().splitlines():
        if line.startswith(">>> "):
            steps.append((line[4:], ""))
        else:
            steps[-1] = (steps[-1][0], steps[-1][1] + line)
    return steps


class ExamplesTest(unittest.TestCase):
    def run_step(self, code, wanted, names):
        if wanted.startswith("raises "):
            with self.assertRaises(getattr(errors, wanted.split()[1])):
                exec(code, names)
        elif wanted:
            self.assertEqual(repr(eval(code, names)), repr(eval(wanted)))
        else:
            exec(code, names)

    def test_each(self):
        for text in EXAMPLES:
            names = {}
            for code, wanted in steps_of(text):
                with self.subTest(code=code):
                    self.run_step(code, wanted, names)

    def test_all_modules_have_one(self):
        self.assertEqual(len(EXAMPLES), 12)
        for name in ("machines", "tears", "fitting", "pairs", "books", "hints", "sums", "safety", "kinds", "desks"):
            self.assertTrue(any([f"from tearwords.{name} import" in text for text in EXAMPLES]), name)


if __name__ == "__main__":
    unittest.main()
