"""The examples of the interface, as they are printed there."""

import doctest
import os
import unittest

from maieutic import errors

README = os.path.join(os.path.dirname(os.path.dirname(os.path.abspath(__file__))), "README.md")

MACHINES = """
>>> from maieutic.machines import outputs_along
>>> outputs_along((2, 2, ((0, 1), (1, 0)), (1, 0)), [0, 1, 1])
[1, 1, 0, 1]

>>> from maieutic.machines import output_after
>>> output_after((2, 2, ((0, 1), (1, 0)), (1, 0)), [2])
raises NotAllowed
"""

LEAST = """
>>> from maieutic.least import least
>>> least((1, 2, ((1,), (2,), (3,), (0,)), (0, 1, 0, 1)))
(1, 2, ((1,), (0,)), (0, 1))
"""

DIFFER = """
>>> from maieutic.differ import first_difference
>>> first_difference((1, 2, ((1,), (1,)), (0, 0)), (1, 2, ((1,), (2,), (2,)), (0, 0, 1)))
[0, 0]
"""

BESIDE = """
>>> from maieutic.beside import beside
>>> beside((1, 2, ((1,), (0,)), (0, 1)), (1, 2, ((1,), (1,)), (0, 1)))
(2, 4, ((1, 2), (0, 3), (3, 2), (2, 3)), (0, 2, 1, 3))

>>> from maieutic.beside import own_parts
>>> own_parts([0, 2, 1, 3], 2)
([0, 1], [0, 1])
"""

NOTATION = """
>>> from maieutic.notation import read_machine
>>> read_machine("2 2: 1 0 1; 0 1 0")
(2, 2, ((0, 1), (1, 0)), (1, 0))

>>> from maieutic.notation import read_machine
>>> read_machine("1 1:0 0")
raises BadForm

>>> from maieutic.notation import word_text
>>> word_text([1, 0, 2])
'1 0 2'
"""

HALVING = """
>>> from maieutic.halving import Halving
>>> h = Halving(4)
>>> h.place()
2
>>> h.tell(True)
>>> h.place()
3
>>> h.tell(False)
>>> h.place()
>>> h.found()
2
"""

ASKER = """
>>> from maieutic.asker import Asker
>>> asker = Asker(1, 2, 5, [([], 0), ([0], 0)])
>>> asker.step()
('propose', (1, 2, ((0,),), (0,)))
>>> asker.show([0, 0])
>>> asker.step()
('ask', [0, 0])
>>> asker.answer(0)
>>> asker.step()
('broken', 'shown')
>>> asker.image()
'1 2 5 .=0 0=0 | -00 =0'
"""

APART = """
>>> from maieutic.apart import ways_to
>>> ways_to((2, 2, ((0, 2), (0, 0), (2, 0)), (1, 0, 0)))
[[], None, [1]]

>>> from maieutic.apart import telling_words
>>> telling_words((1, 1, ((0,),), (0,)))
[[]]
"""

SUITE = """
>>> from maieutic.suite import are_told
>>> even = (2, 2, ((0, 1), (1, 0)), (1, 0))
>>> are_told([[0, 1]], even, (2, 2, ((0, 1), (1, 1)), (1, 0)))
False
>>> are_told([[1, 1]], even, (2, 2, ((0, 1), (1, 1)), (1, 0)))
True

>>> from maieutic.suite import suite_words
>>> suite_words((1, 1, ((0,),), (0,)), 30)
raises NotAllowed
"""

BLIND = """
>>> from maieutic.blind import unused_moves
>>> unused_moves((2, 2, ((0, 1), (1, 0)), (1, 0)), [[0, 1, 0]])
[(1, 1)]

>>> from maieutic.blind import blind_machine
>>> blind_machine((2, 2, ((0, 1), (1, 0)), (1, 0)), [[0, 1, 0]])
(2, 2, ((0, 1), (1, 1)), (1, 0))

>>> from maieutic.blind import blind_machine
>>> blind_machine((2, 2, ((0, 1), (1, 0)), (1, 0)), [[0, 1, 0, 1]])
raises Missing
"""

HOME = """
>>> from maieutic.home import homing_word
>>> homing_word((1, 1, ((0,),), (0,)))
[]

>>> from maieutic.home import state_at_end
>>> state_at_end((1, 2, ((1,), (2,), (0,)), (0, 0, 1)), [0], [0, 1])
2
>>> state_at_end((1, 2, ((1,), (2,), (0,)), (0, 0, 1)), [0], [1, 1])
raises Missing
"""

SECRET = """
>>> from maieutic.secret import Secret
>>> box = Secret(2, 2)
>>> box.left()
4
>>> box.reply([0, 1])
0
>>> box.possible()
[[0, 0], [1, 0], [1, 1]]
>>> box.pair()[0]
(2, 2, ((1, 2), (3, 2), (2, 2), (2, 2)), (0, 0, 0, 1))
"""

SMALLEST = """
>>> from maieutic.smallest import smallest, is_only
>>> smallest(1, 2, [([], 1), ([0], 0), ([0, 0], 1)])
(1, 2, ((1,), (0,)), (1, 0))
>>> is_only(1, 2, [([], 1), ([0], 0), ([0, 0], 1)])
True
>>> smallest(1, 2, [([], 1), ([0], 0)])
(1, 2, ((1,), (0,)), (1, 0))
>>> is_only(1, 2, [([], 1), ([0], 0)])
False
>>> smallest(2, 2, [([0], 1), ([1], 0)])
(2, 2, ((1, 0), (0, 0)), (0, 1))

>>> from maieutic.smallest import smallest
>>> smallest(1, 2, [([0], 0), ([0], 1)])
raises Broken
"""

CLASH = """
>>> from maieutic.clash import clash_list, do_clash
>>> do_clash([([], 1), ([0], 0), ([0, 0], 1)], [], [0])
True
>>> len(clash_list(1, 2, [([], 1), ([0], 0), ([0, 0], 1)]))
2
"""

FRACTIONS = """
>>> from maieutic.fractions import fraction
>>> fraction(6, -4)
(-3, 2)

>>> from maieutic.fractions import solve
>>> solve([[(1, 1), (1, 1)], [(0, 1), (2, 1)]], [(3, 1), (4, 1)])
[(3, 1), (1, 2)]
"""

WEIGH = """
>>> from maieutic.weigh import rank_of, weight_of
>>> one = (1, 1)
>>> zero = (0, 1)
>>> unit = ((one, zero), (zero, one))
>>> ones = (2, (one, zero), (unit, ((one, one), (zero, one))), (zero, one))
>>> weight_of(ones, [0, 1, 1, 0])
(2, 1)
>>> rank_of(ones)
2
"""

WEIGHER = """
>>> from maieutic.weigher import Weigher
>>> Weigher(5, 1)
raises NotAllowed

>>> from maieutic.weigher import Weigher
>>> Weigher(2, 3).step() == Weigher(2, 3).step()
True
"""

TREES = """
>>> from maieutic.trees import output_of_tree
>>> values = ((0, 0, 1, 2), 2, ((0,), (1,), (1, 0), (0, 0, 0, 1)), (0, 1))
>>> output_of_tree(values, [3, 1, 2, 0])
1
>>> output_of_tree(values, [3, 1])
raises NotAllowed
"""

FIRST_TREES = """
>>> from maieutic.first_trees import tree_difference
>>> values = ((0, 0, 1, 2), 2, ((0,), (1,), (1, 0), (0, 0, 0, 1)), (0, 1))
>>> tree_difference(values, ((0, 0, 1, 2), 2, ((0,), (1,), (1, 0), (0, 1, 1, 1)), (0, 1)))
[3, 0, 1]

>>> from maieutic.first_trees import least_tree_machine
>>> least_tree_machine(((1, 0), 2, ((0, 0, 0), (2,)), (0, 1, 1)))
((1, 0), 2, ((1, 1), (0,)), (1, 0))
"""


def steps_of(example):
    """The pairs of a line of code and the lines that are printed behind it."""
    steps = []
    for line in example.splitlines():
        if line.startswith(">>> "):
            steps.append((line[4:], []))
        elif line:
            steps[-1][1].append(line)
    return [(code, "\n".join(printed)) for code, printed in steps]


def value_of(code, names):
    try:
        compiled = compile(code, "example", "eval")
    except SyntaxError:
        exec(code, names)
        return None
    return eval(compiled, names)


class Examples(unittest.TestCase):
    def run_examples(self, text):
        for example in text.strip().split("\n\n"):
            names = {}
            for code, printed in steps_of(example):
                with self.subTest(code=code):
                    self.check_line(code, printed, names)

    def check_line(self, code, printed, names):
        if printed.startswith("raises "):
            self.assertRaises(getattr(errors, printed[7:]), value_of, code, names)
            return
        value = value_of(code, names)
        self.assertEqual("" if value is None else repr(value), printed)

    def test_machines(self):
        self.run_examples(MACHINES)

    def test_least(self):
        self.run_examples(LEAST)

    def test_differ(self):
        self.run_examples(DIFFER)

    def test_beside(self):
        self.run_examples(BESIDE)

    def test_notation(self):
        self.run_examples(NOTATION)

    def test_halving(self):
        self.run_examples(HALVING)

    def test_asker(self):
        self.run_examples(ASKER)

    def test_apart(self):
        self.run_examples(APART)

    def test_suite(self):
        self.run_examples(SUITE)

    def test_blind(self):
        self.run_examples(BLIND)

    def test_home(self):
        self.run_examples(HOME)

    def test_secret(self):
        self.run_examples(SECRET)

    def test_smallest(self):
        self.run_examples(SMALLEST)

    def test_clash(self):
        self.run_examples(CLASH)

    def test_fractions(self):
        self.run_examples(FRACTIONS)

    def test_weigh(self):
        self.run_examples(WEIGH)

    def test_weigher(self):
        self.run_examples(WEIGHER)

    def test_trees(self):
        self.run_examples(TREES)

    def test_first_trees(self):
        self.run_examples(FIRST_TREES)


class ReadMe(unittest.TestCase):
    def test_its_examples(self):
        with open(README, encoding="utf-8") as file:
            text = file.read().replace("```", "")
        examples = doctest.DocTestParser().get_doctest(text, {}, "README.md", README, 0)
        self.assertGreater(len(examples.examples), 0)
        self.assertEqual(doctest.DocTestRunner().run(examples).failed, 0)


if __name__ == "__main__":
    unittest.main()
