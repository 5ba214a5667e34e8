"""[8.1], [8.4]: the asker that never proposes."""

import itertools
import unittest

from maieutic.asker import Asker
from maieutic.errors import NotAllowed
from maieutic.honest import Honest, play
from maieutic.least import least
from maieutic.suite import MAX_LIST, suite_words
from maieutic.tested import TestedAsker
from tests.callers import PlainCaller
from tests.helper import all_machines, chain, plain_output, random_machine, ring, source

# For each number of letters the greatest most that is allowed.
GREATEST = {1: 29, 2: 10, 3: 6, 4: 5}


def words_bound(letters, states, extra):
    """The bound of [3.2] for a least machine with so many states."""
    return (states * letters + 1) * sum(letters ** power for power in range(extra + 1)) * max(1, states - 1)


def told_steps(letters, outs, most, box):
    """The words that [8.4] says are asked, in order, and the last step; a plain Asker is led by suites."""
    asker = Asker(letters, outs, most, [])
    known = {}
    asked = []

    def output(word):
        if tuple(word) not in known:
            known[tuple(word)] = box(word)
            asked.append(list(word))
        return known[tuple(word)]

    def difference(machine):
        for word in suite_words(machine, most - len(machine[2])):
            for length in range(len(word) + 1):
                if output(word[:length]) != plain_output(machine, word[:length]):
                    return word[:length]
        return None

    step = asker.step()
    while step[0] in ("ask", "propose"):
        if step[0] == "ask":
            asker.answer(output(step[1]))
        else:
            word = difference(step[1])
            if word is None:
                asker.accept()
            else:
                asker.show(word)
        step = asker.step()
    return asked, step


class TestedCaller(PlainCaller):
    def check(self):
        super().check()
        self.test.assertNotEqual(self.asker.step()[0], "propose")
        self.test.assertEqual(self.asker.report()[2:], (0, 0))


class RightAnswers(unittest.TestCase):
    def play_box(self, letters, outs, most, box):
        """Answer by a function, and hold each step against what [8.4] says."""
        asked, last = told_steps(letters, outs, most, box)
        caller = TestedCaller(self, TestedAsker(letters, outs, most))
        for word in asked:
            self.assertEqual(caller.step(), ("ask", word))
            caller.reply(box(word))
        self.assertEqual(caller.step(), last)
        self.assertEqual(caller.asked, asked)
        self.assertLessEqual(max(len(word) for word in asked), 3 * most)
        caller.check_misfits()
        return last

    def find_out(self, secret, most):
        last = self.play_box(secret[0], secret[1], most, lambda word: plain_output(secret, word))
        found = least(secret)
        if len(found[2]) <= most:
            self.assertEqual(last, ("done", found))
        else:
            self.assertIn(last[0], ("done", "full"))
        return last[0]

    def test_all_small_machines(self):
        for letters, states in ((1, 1), (1, 2), (1, 3), (2, 1), (2, 2)):
            for secret in all_machines(letters, 2, states):
                for most in (1, 2, 3, 4):
                    self.find_out(secret, most)

    def test_greater_machines(self):
        numbers = source("tested")
        for letters, most in ((1, 12), (1, 20), (2, 6), (2, 8), (3, 5), (3, 6), (4, 4), (4, 5)):
            for outs in (2, 6):
                for states in {1, 2, most // 2, most - 1, most}:
                    self.find_out(random_machine(numbers, letters, outs, states), most)

    def test_chains_and_rings(self):
        for letters, most in ((1, 29), (1, 7), (2, 5), (2, 10), (3, 5)):
            for states in {2, most // 2, most - 1, most, most + 1}:
                if states <= 30:
                    self.find_out(chain(letters, states), most)
                    self.find_out(ring(letters, states), most)

    def test_machines_with_more_states(self):
        numbers = source("more states")
        ends = set()
        for letters, most in ((1, 1), (1, 3), (2, 1), (2, 3), (3, 2), (4, 2)):
            for _ in range(12):
                ends.add(self.find_out(random_machine(numbers, letters, 2, most + numbers.choice((1, 2, 6))), most))
            ends.add(self.find_out(chain(letters, 2 * most + 4), most))
        self.assertEqual(ends, {"done", "full"})

    def test_boxes_that_are_no_machines(self):
        numbers = source("no machines")
        for letters, outs, most in itertools.product((1, 2, 3), (1, 2, 4), (1, 2, 4)):
            told = {}
            boxes = (lambda word: len(word) * len(word) // 5 % outs,
                     lambda word: min(outs - 1, int(2 * word.count(0) == len(word))),
                     lambda word: told.setdefault(tuple(word), numbers.randrange(outs)),
                     lambda word: min(outs - 1, int(len(word) == 2 * most - 1)))
            for box in boxes:
                self.assertIn(self.play_box(letters, outs, most, box)[0], ("done", "full"))

    def test_one_word_that_contradicts(self):
        # All but one word are told as by a machine: it makes a difference wherever it is in the suite.
        secret = ring(2, 3)
        asked, _ = told_steps(2, 2, 4, lambda word: plain_output(secret, word))
        for odd in asked:
            self.play_box(2, 2, 4, lambda word: plain_output(secret, word) ^ (word == odd))


class Steps(unittest.TestCase):
    def test_misfits_at_each_step(self):
        secret = ring(2, 3)
        caller = TestedCaller(self, TestedAsker(2, 2, 4))
        while caller.step()[0] == "ask":
            caller.check_misfits()
            caller.reply(plain_output(secret, caller.step()[1]))
        caller.check_misfits()
        self.assertEqual(caller.step(), ("done", secret))

    def test_an_answer_that_is_no_output(self):
        secret = ring(2, 3)
        asked, _ = told_steps(2, 2, 3, lambda word: plain_output(secret, word))
        for replies in range(len(asked)):
            caller = TestedCaller(self, TestedAsker(2, 2, 3))
            for word in asked[:replies]:
                caller.reply(plain_output(secret, word))
            caller.break_by(caller.asker.answer, (-1, 2, 99)[replies % 3], "output")

    def test_two_askers_in_turn(self):
        one, two = TestedAsker(1, 2, 3), TestedAsker(1, 2, 3)
        one.answer(1)
        self.assertEqual(two.step(), ("ask", []))
        self.assertEqual((one.report(), two.report()), ((1, 0, 0, 0), (0, 0, 0, 0)))


class Arguments(unittest.TestCase):
    def test_numbers_out_of_range(self):
        for wrong in (-1, 0, 5):
            self.assertRaises(NotAllowed, TestedAsker, wrong, 2, 3)
        for wrong in (-1, 0, 7):
            self.assertRaises(NotAllowed, TestedAsker, 2, wrong, 3)
        for wrong in (-1, 0, 31):
            self.assertRaises(NotAllowed, TestedAsker, 2, 2, wrong)

    def test_suites_with_too_many_words(self):
        for letters, most in itertools.product((1, 2, 3, 4), range(1, 31)):
            allowed = all(words_bound(letters, states, most - states) <= MAX_LIST for states in range(1, most + 1))
            self.assertIs(allowed, most <= GREATEST[letters])
            for outs in (1, 2, 6):
                if allowed:
                    self.assertEqual(TestedAsker(letters, outs, most).step(), ("ask", []))
                else:
                    self.assertRaises(NotAllowed, TestedAsker, letters, outs, most)

    def test_play(self):
        numbers = source("tested play")
        for letters, outs, most in ((1, 2, 10), (2, 3, 5), (4, 2, 4)):
            secret = random_machine(numbers, letters, outs, most)
            self.assertEqual(play(TestedAsker(letters, outs, most), Honest(secret, [])), ("done", least(secret)))


if __name__ == "__main__":
    unittest.main()
