"""What the document promises over the whole program: the same machine, found out in several ways."""

import copy
import itertools
import unittest

from maieutic.asker import Asker
from maieutic.changed import ChangedAsker
from maieutic.doubt import DoubtAsker
from maieutic.first_trees import least_tree_machine
from maieutic.honest import Honest, play
from maieutic.images import load_asker
from maieutic.least import least
from maieutic.tested import TestedAsker
from maieutic.tree_asker import TreeAsker
from maieutic.weigh import rank_of, weigh_alike, weight_difference, weight_of
from maieutic.weigher import Weigher
from tests.helper import plain_output, random_machine, source, words_up_to
from tests.helper_trees import answer_alike, plain_tree_difference, plain_tree_output
from tests.helper_weights import ONE, ZERO, plain_weight


def as_trees(machine):
    """The machine as one of trees: the letters have one kid, and the last symbol stands for the empty word."""
    letters, outs, moves, outputs = machine
    rules = tuple(tuple(row[letter] for row in moves) for letter in range(letters)) + ((0,),)
    return ((1,) * letters + (0,), outs, rules, outputs)


def tree_of(word, letters):
    return word[::-1] + [letters]


def as_weights(machine):
    """The machine as a weighted one: its outputs are the weights."""
    letters, _, moves, outputs = machine
    states = range(len(moves))
    steps = tuple(tuple(tuple(ONE if after == moves[state][letter] else ZERO for after in states) for state in states)
                  for letter in range(letters))
    return (letters, tuple(ONE if state == 0 else ZERO for state in states), steps,
            tuple((output, 1) for output in outputs))


def led(asker, answer_to, judge):
    """Lead an asker of trees or weights to its last step."""
    step = asker.step()
    while step[0] in ("ask", "propose"):
        if step[0] == "ask":
            asker.answer(answer_to(step[1]))
        else:
            shown = judge(step[1])
            if shown is None:
                asker.accept()
            else:
                asker.show(shown)
        step = asker.step()
    return step


def secrets():
    numbers = source("whole")
    for letters, outs, states in ((1, 2, 3), (1, 4, 6), (2, 2, 2), (2, 2, 5), (2, 4, 6), (3, 3, 4), (4, 2, 4), (4, 4, 5)):
        for _ in range(4):
            yield random_machine(numbers, letters, outs, states)


class SeveralWays(unittest.TestCase):
    def test_four_askers_of_words(self):
        numbers = source("four askers")
        for secret in secrets():
            letters, outs = secret[:2]
            found = ("done", least(secret))
            most = {1: 20, 2: 8, 3: 6, 4: 5}[letters]
            other = random_machine(numbers, letters, outs, 3)
            for picks in ([], [59], [3, 17, -1]):
                self.assertEqual(play(Asker(letters, outs, most, []), Honest(secret, picks)), found)
                self.assertEqual(play(DoubtAsker(letters, outs, most, 3), Honest(secret, picks)), found)
                self.assertEqual(play(ChangedAsker(other, most), Honest(secret, picks)), found)
                self.assertEqual(play(ChangedAsker(secret, most), Honest(secret, picks)), found)
            self.assertEqual(play(TestedAsker(letters, outs, most), Honest(secret, [])), found)

    def test_words_as_trees(self):
        for secret in secrets():
            trees = as_trees(secret)
            for word in words_up_to(secret[0], 3):
                self.assertEqual(plain_tree_output(trees, tree_of(word, secret[0])), plain_output(secret, word))
            last = led(TreeAsker(trees[0], trees[1], 6), lambda tree: plain_tree_output(trees, tree),
                       lambda machine: None if answer_alike(machine, trees) else plain_tree_difference(machine, trees))
            self.assertEqual(last, ("done", least_tree_machine(trees)))
            _, found = play(Asker(secret[0], secret[1], 30, []), Honest(secret, [7]))
            self.assertEqual(len(last[1][3]), len(found[2]))
            self.assertTrue(answer_alike(last[1], as_trees(found)))

    def test_outputs_as_weights(self):
        for secret in secrets():
            weights = as_weights(secret)
            for word in words_up_to(secret[0], 3):
                self.assertEqual(plain_weight(weights, word), (plain_output(secret, word), 1))
            last = led(Weigher(secret[0], 6), lambda word: weight_of(weights, word),
                       lambda machine: None if weigh_alike(machine, weights) else weight_difference(machine, weights))
            _, found = play(Asker(secret[0], secret[1], 30, []), Honest(secret, [7]))
            self.assertEqual(last[0], "done")
            self.assertTrue(weigh_alike(last[1], as_weights(found)))
            self.assertEqual(len(last[1][1]), rank_of(weights))
            self.assertLessEqual(len(last[1][1]), len(found[2]))

    def test_an_image_in_the_midst(self):
        # An asker that is written down at each step and begun anew comes to the same end.
        secret = random_machine(source("midst"), 2, 3, 6)
        asker, box = Asker(2, 3, 30, []), Honest(secret, [5, 2])
        while asker.step()[0] in ("ask", "propose"):
            asker = load_asker(asker.image())
            step = asker.step()
            word = None if step[0] == "ask" else box.judge(step[1])
            if step[0] == "ask":
                asker.answer(box.reply(step[1]))
            elif word is None:
                asker.accept()
            else:
                asker.show(word)
        self.assertEqual(asker.step(), ("done", least(secret)))


class Arguments(unittest.TestCase):
    def test_lists_that_are_given_and_returned(self):
        """No list that is given is kept or changed, and none that is returned is kept."""
        numbers = source("lists")
        secret = random_machine(numbers, 2, 2, 5)
        trees, weights = as_trees(secret), as_weights(secret)
        boxes = (
            (lambda: Asker(2, 2, 30, []), lambda word: plain_output(secret, word), Honest(secret, [4]).judge),
            (lambda: DoubtAsker(2, 2, 30, 2), lambda word: plain_output(secret, word), Honest(secret, [4]).judge),
            (lambda: ChangedAsker((2, 2, ((0, 0),), (0,)), 30), lambda word: plain_output(secret, word),
             Honest(secret, [4]).judge),
            (lambda: TestedAsker(2, 2, 6), lambda word: plain_output(secret, word), None),
            (lambda: TreeAsker(trees[0], 2, 6), lambda tree: plain_tree_output(trees, tree),
             lambda machine: None if answer_alike(machine, trees) else plain_tree_difference(machine, trees)),
            (lambda: Weigher(2, 6), lambda word: plain_weight(weights, word),
             lambda machine: None if weigh_alike(machine, weights) else weight_difference(machine, weights)),
        )
        for make, answer_to, judge in boxes:
            calm, hasty = make(), make()
            while calm.step()[0] in ("ask", "propose"):
                step, other = calm.step(), hasty.step()
                self.assertEqual(step, other)
                kept = copy.deepcopy(step)
                if step[0] == "ask":
                    other[1].clear()
                    calm.answer(answer_to(step[1]))
                    hasty.answer(answer_to(step[1]))
                elif judge(step[1]) is None:
                    calm.accept()
                    hasty.accept()
                else:
                    shown = judge(step[1])
                    given = list(shown)
                    calm.show(shown)
                    hasty.show(given)
                    given.clear()
                self.assertEqual(step, kept)
                self.assertEqual(calm.report(), hasty.report())
            self.assertEqual(calm.step(), hasty.step())
            self.assertEqual(calm.step()[0], "done")

    def test_the_same_calls_have_the_same_results(self):
        secret = random_machine(source("same calls"), 2, 2, 6)
        for make in (lambda: Asker(2, 2, 30, []), lambda: DoubtAsker(2, 2, 30, 1), lambda: TestedAsker(2, 2, 7)):
            reports = []
            for _ in range(2):
                asker = make()
                play(asker, Honest(secret, [11]))
                reports.append(asker.report())
            self.assertEqual(*reports)

    def test_askers_in_turn(self):
        """Askers of the same kind have nothing in common."""
        first, second = random_machine(source(1), 2, 2, 4), random_machine(source(2), 2, 2, 6)
        for make in (lambda: Asker(2, 2, 30, []), lambda: DoubtAsker(2, 2, 30, 1), lambda: TestedAsker(2, 2, 7)):
            askers = [(make(), Honest(first, [])), (make(), Honest(second, []))]
            for (asker, box), _ in itertools.product(askers * 40, range(7)):
                step = asker.step()
                if step[0] == "ask":
                    asker.answer(box.reply(step[1]))
                elif step[0] == "propose":
                    word = box.judge(step[1])
                    if word is None:
                        asker.accept()
                    else:
                        asker.show(word)
            self.assertEqual([asker.step() for asker, _ in askers], [("done", least(first)), ("done", least(second))])


if __name__ == "__main__":
    unittest.main()
