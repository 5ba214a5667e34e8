"""[8.1], [8.3]: the asker for a box that may have changed."""

import copy
import itertools
import unittest

from maieutic.asker import Asker
from maieutic.changed import ChangedAsker
from maieutic.errors import NotAllowed
from maieutic.honest import Honest, play
from maieutic.least import least
from tests.callers import PlainCaller
from tests.helper import EVEN, SHOWERS, chain, digits, doubled, is_least, plain_output, random_machine, ring
from tests.helper import shortest_difference, shuffled, source, words_up_to
from tests.test_honest import NO_MACHINES


class ChangedCaller(PlainCaller):
    """Asks a plain Asker beside, from the first shown word on: both must go the same way."""

    def __init__(self, test, machine, most):
        self.numbers = (machine[0], machine[1], most)
        self.plain = None
        super().__init__(test, ChangedAsker(machine, most))

    def check(self):
        super().check()
        if self.plain is not None:
            self.test.assertEqual(self.asker.step(), self.plain.step())

    def reply(self, answer):
        self.plain.answer(answer)
        super().reply(answer)

    def show(self, word):
        self.asks_shown = self.plain is not None
        if self.plain is None:
            self.plain = Asker(*self.numbers, [])
            super().show(word)
            # The first shown word is not used any more.
            self.pending = None
            self.test.assertEqual(self.step(), ("ask", []))
        else:
            self.plain.show(list(word))
            super().show(word)

    def accept(self):
        if self.plain is not None:
            self.plain.accept()
        super().accept()


class RightReplies(unittest.TestCase):
    def find_out(self, machine, secret, most, shower, numbers):
        kept = copy.deepcopy(machine)
        caller = ChangedCaller(self, machine, most)
        self.assertEqual(caller.step(), ("propose", least(machine)))
        last = caller.play(lambda word: plain_output(secret, word), lambda proposal: None if shortest_difference(
            proposal, secret) is None else shower(numbers, proposal, secret))
        found = least(secret)
        states = len(found[2])
        self.assertEqual(last, ("done", found) if states <= most else ("full",))
        self.assertEqual(machine, kept)
        n = min(states, most + 1)
        self.assertLessEqual(len(caller.proposed), n + 1)
        self.assertLessEqual(len(caller.asked), n * n * (secret[0] + 1) + n * (digits(caller.longest) + 2))
        self.assertLessEqual(caller.over, n)
        for proposal in caller.proposed[1:]:
            self.assertTrue(is_least(proposal))
            self.assertLessEqual(len(proposal[2]), most)
        caller.check_misfits()
        return caller

    def test_a_machine_that_has_not_changed(self):
        numbers = source("not changed")
        for letters, outs, states in ((1, 1, 1), (1, 2, 5), (2, 3, 6), (4, 6, 30), (3, 2, 15)):
            machine = random_machine(numbers, letters, outs, states)
            for other in (machine, shuffled(numbers, machine), least(machine)):
                for most in (len(least(machine)[2]), 30):
                    caller = self.find_out(other, machine, most, SHOWERS[0], numbers)
                    self.assertEqual(caller.asker.report(), (0, 0, 1, 0))
                    self.assertEqual(len(caller.proposed), 1)

    def test_a_machine_that_has_changed(self):
        numbers = source("changed")
        for letters, outs, states, shower in itertools.product((1, 2, 4), (2, 5), (1, 2, 3, 6, 12), SHOWERS):
            machine = random_machine(numbers, letters, outs, states)
            size = len(least(machine)[2])
            secret = random_machine(numbers, letters, outs, numbers.choice((1, states, states + 2)))
            for most in {size, 30}:
                self.find_out(machine, secret, most, shower, numbers)

    def test_one_move_or_output_that_has_changed(self):
        numbers = source("one move")
        for letters, states, shower in itertools.product((1, 2, 3), (3, 7), SHOWERS):
            machine = random_machine(numbers, letters, 2, states)
            moves = [list(row) for row in machine[2]]
            moves[numbers.randrange(states)][numbers.randrange(letters)] = numbers.randrange(states)
            self.find_out(machine, (letters, 2, tuple(map(tuple, moves)), machine[3]), 30, shower, numbers)
            outputs = machine[3][:-1] + (1 - machine[3][-1],)
            self.find_out(machine, machine[:3] + (outputs,), 30, shower, numbers)

    def test_chains_and_rings(self):
        numbers = source("changed chains")
        for one, two in ((chain(2, 6), ring(2, 6)), (ring(1, 30), chain(1, 30)), (chain(2, 5), chain(2, 6))):
            for shower in SHOWERS:
                self.find_out(one, two, 30, shower, numbers)
                self.find_out(two, one, 30, shower, numbers)
        self.find_out(chain(2, 5), chain(2, 6), 5, SHOWERS[0], numbers)

    def test_a_machine_that_is_not_least(self):
        numbers = source("changed not least")
        machine = random_machine(numbers, 2, 2, 15)
        states = len(least(machine)[2])
        self.find_out(doubled(numbers, machine), machine, states, SHOWERS[0], numbers)


class Steps(unittest.TestCase):
    def test_the_first_reply(self):
        caller = ChangedCaller(self, EVEN, 5)
        self.assertEqual(caller.step(), ("propose", EVEN))
        self.assertEqual(caller.asker.report(), (0, 0, 1, 0))
        caller.check_misfits()
        caller.accept()
        self.assertEqual(caller.step(), ("done", EVEN))
        self.assertEqual(caller.asker.report(), (0, 0, 1, 0))
        caller.check_misfits()

    def test_first_words_that_are_not_allowed(self):
        for word in ([2], [-1], [0, 2], [0] * 301, [0] * 299 + [-1], [99]):
            caller = ChangedCaller(self, EVEN, 5)
            caller.break_by(caller.asker.show, word, "word")
            self.assertEqual(caller.asker.report(), (0, 0, 1, 0))

    def test_a_first_word_of_300_letters(self):
        caller = ChangedCaller(self, EVEN, 5)
        caller.show([0, 1] * 150)
        self.assertEqual(caller.asker.report(), (0, 0, 1, 300))
        self.assertEqual(caller.step(), ("ask", []))
        caller.check_misfits()

    def test_the_first_word_may_be_any_word(self):
        # Nothing is known of the box, so no first word contradicts anything.
        for word in words_up_to(2, 3):
            caller = ChangedCaller(self, EVEN, 5)
            caller.show(word)
            while caller.step()[0] == "ask":
                caller.reply(1)
            caller.show(word)
            self.assertEqual(caller.step()[0], "broken" if len(word) < 2 else "ask")

    def test_later_replies(self):
        caller = ChangedCaller(self, EVEN, 5)
        caller.show([0, 1, 1])
        while caller.step()[0] == "ask":
            caller.check_misfits()
            caller.reply(1)
        self.assertEqual(caller.asker.report(), (3, 2, 2, 3))
        caller.check_misfits()
        caller.show([1, 1])
        self.assertEqual(caller.asker.report(), (3, 2, 2, 3))
        caller.reply(0)
        self.assertEqual(caller.step()[0], "ask")
        caller.plain.answer(2)
        caller.break_by(caller.asker.answer, 2, "output")

    def test_later_words_that_are_not_allowed(self):
        for word in ([2], [-1], [0] * 301):
            caller = ChangedCaller(self, EVEN, 5)
            caller.show([])
            while caller.step()[0] == "ask":
                caller.reply(0)
            caller.plain.show(word)
            caller.break_by(caller.asker.show, word, "word")
            self.assertEqual(caller.asker.report(), (3, 2, 2, 0))

    def test_false_replies(self):
        numbers = source("changed false")
        ends = set()
        for letters, outs, most, _ in itertools.product((1, 2), (2, 4), (2, 4, 9), range(4)):
            caller = ChangedCaller(self, random_machine(numbers, letters, outs, 2), most)
            last = caller.play(lambda word: int(numbers.randrange(5) == 0), lambda machine: None if numbers.randrange(
                5) == 0 else [numbers.randrange(letters) for _ in range(numbers.choice((0, 3, 9, 300)))])
            self.assertLessEqual(len(caller.proposed), most + 2)
            if last[0] == "done":
                self.assertEqual(last[1], caller.proposed[-1])
            ends.add(last[0])
            caller.check_misfits()
        self.assertEqual(ends, {"done", "full", "broken"})


class Arguments(unittest.TestCase):
    def test_tuples_that_are_no_machines(self):
        for machine in NO_MACHINES:
            for most in (1, 30, 0):
                self.assertRaises(NotAllowed, ChangedAsker, machine, most)

    def test_most(self):
        for most in (-1, 0, 31):
            self.assertRaises(NotAllowed, ChangedAsker, (1, 2, ((0,),), (0,)), most)
        for states in (1, 2, 5, 30):
            machine = chain(2, states) if states > 1 else (2, 2, ((0, 0),), (0,))
            for most in range(1, 31):
                if most < states:
                    self.assertRaises(NotAllowed, ChangedAsker, machine, most)
                else:
                    self.assertEqual(ChangedAsker(machine, most).step(), ("propose", machine))

    def test_the_least_machine_counts(self):
        machine = doubled(source("counts"), ring(2, 15))
        self.assertEqual(ChangedAsker(machine, 15).step(), ("propose", least(machine)))
        self.assertRaises(NotAllowed, ChangedAsker, machine, 14)

    def test_play(self):
        numbers = source("changed play")
        for letters, outs, states in ((1, 2, 4), (2, 3, 8), (4, 6, 20)):
            machine = random_machine(numbers, letters, outs, states)
            secret = random_machine(numbers, letters, outs, states)
            self.assertEqual(play(ChangedAsker(machine, 30), Honest(secret, [5, 2])), ("done", least(secret)))
            self.assertEqual(play(ChangedAsker(machine, 30), Honest(machine, [])), ("done", least(machine)))


if __name__ == "__main__":
    unittest.main()
