"""[8.1], [8.2]: the asker for a box that answers wrongly now and then."""

import itertools
import unittest

from maieutic.asker import Asker
from maieutic.doubt import MAX_WRONG, DoubtAsker
from maieutic.errors import NotAllowed
from maieutic.honest import Honest, play
from maieutic.least import least
from tests.callers import PlainCaller
from tests.helper import SHOWERS, all_machines, chain, digits, plain_output, random_machine, ring, shortest_difference
from tests.helper import show_first, source


class DoubtCaller(PlainCaller):
    """Asks a plain Asker beside: both must go the same way, word by word."""

    asks_again = True

    def __init__(self, test, letters, outs, most, wrong):
        self.plain = Asker(letters, outs, most, [])
        self.wrong = wrong
        self.row = []
        super().__init__(test, DoubtAsker(letters, outs, most, wrong))

    def check(self):
        super().check()
        self.test.assertEqual(self.asker.step(), self.plain.step())

    def reply(self, answer):
        self.row.append(answer)
        if self.row.count(answer) == self.wrong + 1:
            self.plain.answer(answer)
            self.row = []
        super().reply(answer)

    def show(self, word):
        self.plain.show(list(word))
        super().show(word)

    def accept(self):
        self.plain.accept()
        super().accept()

    def check_shown(self):
        """The plain Asker knows what is right."""

    def settled(self):
        """How many words are asked and will not be asked again."""
        return self.plain.report()[0]


class Liar:
    """A box with a machine, which answers wrongly as a function says, but not too often."""

    def __init__(self, machine, wrong, is_wrong, other):
        self.machine = machine
        self.left = wrong
        self.is_wrong = is_wrong
        self.other = other

    def reply(self, word):
        right = plain_output(self.machine, word)
        if self.left > 0 and self.machine[1] > 1 and self.is_wrong():
            self.left -= 1
            return (right + 1 + self.other(self.machine[1] - 1)) % self.machine[1]
        return right


class RightEnough(unittest.TestCase):
    def find_out(self, secret, most, wrong, box, shower, numbers):
        caller = DoubtCaller(self, secret[0], secret[1], most, wrong)
        box.caller = caller
        last = caller.play(box.reply, lambda machine: None if shortest_difference(
            machine, secret) is None else shower(numbers, machine, secret))
        found = least(secret)
        states = len(found[2])
        self.assertEqual(last, ("done", found) if states <= most else ("full",))
        n = min(states, most + 1)
        words = n * n * (secret[0] + 1) + n * (digits(caller.longest) + 2)
        self.assertLessEqual(len(caller.asked), (wrong + 1) * words + wrong)
        self.assertLessEqual(len(caller.asked), (wrong + 1) * caller.settled() + wrong - box.left)
        self.assertLessEqual(len(caller.proposed), n)
        caller.check_misfits()
        return caller

    def test_all_small_machines(self):
        numbers = source("doubt small")
        for secret in list(all_machines(1, 2, 2)) + list(all_machines(2, 2, 2)):
            for most, wrong in ((1, 1), (2, 2), (30, 1)):
                box = Liar(secret, wrong, lambda: numbers.randrange(3) == 0, numbers.randrange)
                self.find_out(secret, most, wrong, box, show_first, numbers)

    def test_wrong_answers_at_any_time(self):
        numbers = source("any time")
        for letters, outs, states in ((1, 2, 5), (2, 2, 6), (2, 3, 4), (3, 6, 5), (4, 2, 3), (2, 1, 1)):
            for wrong, shower in itertools.product((0, 1, 3, 8), SHOWERS):
                secret = random_machine(numbers, letters, outs, states)
                for most in (2, 30):
                    for seldom in (1, 2, 20):
                        box = Liar(secret, wrong, lambda: numbers.randrange(seldom) == 0, numbers.randrange)
                        self.find_out(secret, most, wrong, box, shower, numbers)

    def test_the_same_wrong_answer_in_a_row(self):
        # Nothing but one wrong output is given for a word, as often as there are wrong answers.
        numbers = source("in a row")
        secret = random_machine(numbers, 2, 4, 6)
        calm = Liar(secret, 0, lambda: False, numbers.randrange)
        words = self.find_out(secret, 30, 0, calm, show_first, numbers).settled()
        for wrong, word in itertools.product((1, 2, 8), range(words)):
            box = Liar(secret, wrong, lambda: box.caller.settled() == word, lambda count: 0)
            caller = self.find_out(secret, 30, wrong, box, show_first, numbers)
            self.assertEqual(box.left, 0)
            self.assertEqual(len(caller.asked), (wrong + 1) * caller.settled() + wrong)

    def test_wrong_answers_for_the_first_and_the_last_word(self):
        numbers = source("first and last")
        for secret in (random_machine(numbers, 2, 3, 5), chain(2, 6), ring(3, 5)):
            calm = Liar(secret, 0, lambda: False, numbers.randrange)
            words = self.find_out(secret, 30, 0, calm, show_first, numbers).settled()
            for wrong in (1, 5, 8):
                for place in (0, 1, words - 2, words - 1):
                    box = Liar(secret, wrong, lambda: box.caller.settled() >= place, numbers.randrange)
                    self.find_out(secret, 30, wrong, box, show_first, numbers)
                    self.assertEqual(box.left, 0)
                box = Liar(secret, wrong, lambda: box.caller.settled() in (0, words - 1) and numbers.randrange(2),
                           numbers.randrange)
                self.find_out(secret, 30, wrong, box, show_first, numbers)

    def test_without_wrong_answers(self):
        # Nothing wrong is ever told: then each word is asked wrong + 1 times.
        numbers = source("nothing wrong")
        secret = random_machine(numbers, 2, 2, 7)
        for wrong in range(9):
            box = Liar(secret, 0, lambda: False, numbers.randrange)
            caller = self.find_out(secret, 30, wrong, box, show_first, numbers)
            self.assertEqual(len(caller.asked), (wrong + 1) * caller.settled())


class OneWord(unittest.TestCase):
    def test_as_many_answers_as_there_can_be(self):
        for outs, wrong in itertools.product((1, 2, 3, 6), range(9)):
            asker = DoubtAsker(2, outs, 5, wrong)
            word = asker.step()
            answers = list(range(outs)) * wrong
            for count, answer in enumerate(answers):
                self.assertEqual(asker.step(), word)
                self.assertEqual(asker.report(), (count, 0, 0, 0))
                self.assertIsNone(asker.answer(answer))
            self.assertEqual(asker.step(), word)
            asker.answer(outs - 1)
            self.assertNotEqual(asker.step(), word)
            self.assertEqual(asker.report()[0], outs * wrong + 1)

    def test_the_counts_begin_anew_with_each_word(self):
        asker = DoubtAsker(1, 2, 5, 2)
        for answer in (0, 0, 1, 1, 0):
            self.assertEqual(asker.step(), ("ask", []))
            asker.answer(answer)
        for answer in (1, 1, 0, 0, 0):
            self.assertEqual(asker.step(), ("ask", [0]))
            asker.answer(answer)
        self.assertEqual(asker.step(), ("propose", (1, 2, ((0,),), (0,))))
        self.assertEqual(asker.report(), (10, 5, 1, 0))

    def test_the_output_that_is_given_most_often_last(self):
        # Not the output that was given first counts, and not the one of the last answer alone.
        asker = DoubtAsker(1, 3, 5, 3)
        for answer in (2, 2, 2, 1, 0, 1, 1, 0, 0, 1):
            self.assertEqual(asker.step(), ("ask", []))
            asker.answer(answer)
        self.assertEqual(asker.step(), ("ask", [0]))
        for _ in range(4):
            asker.answer(1)
        self.assertEqual(asker.step(), ("propose", (1, 3, ((0,),), (1,))))


class Reasons(unittest.TestCase):
    def caller_after(self, answers, wrong=2, outs=3):
        caller = DoubtCaller(self, 2, outs, 5, wrong)
        for _ in range(answers):
            caller.reply(1)
        return caller

    def test_an_answer_that_is_no_output(self):
        for answers, output in itertools.product(range(8), (-1, 3, 99)):
            caller = self.caller_after(answers)
            caller.plain.answer(output)
            caller.break_by(caller.asker.answer, output, "output")
            self.assertEqual(caller.asker.report()[0], answers)

    def test_shown_words(self):
        for word, reason in (([2], "word"), ([-1], "word"), ([0] * 301, "word")):
            caller = self.caller_after(9)
            caller.plain.show(word)
            caller.break_by(caller.asker.show, word, reason)
        caller = self.caller_after(9)
        caller.show([0])
        self.assertEqual(caller.step(), ("broken", "shown"))
        caller.check_misfits()
        caller = self.caller_after(9)
        caller.show([0] * 300)
        self.assertEqual(caller.step(), ("ask", [0] * 300))
        for answer in (1, 0, 0, 1, 1):
            caller.check_misfits()
            caller.reply(answer)
        self.assertEqual(caller.step(), ("broken", "shown"))
        self.assertEqual(caller.asker.report(), (14, 6 + 1500, 1, 300))

    def test_misfits_at_each_step(self):
        numbers = source("doubt misfits")
        secret = random_machine(numbers, 2, 2, 4)
        caller = DoubtCaller(self, 2, 2, 30, 2)
        while caller.step()[0] in ("ask", "propose"):
            caller.check_misfits()
            step = caller.step()
            if step[0] == "ask":
                caller.reply(plain_output(secret, step[1]))
            elif shortest_difference(step[1], secret) is None:
                caller.accept()
            else:
                caller.show(shortest_difference(step[1], secret))
        caller.check_misfits()
        self.assertEqual(caller.step(), ("done", least(secret)))

    def test_false_answers_without_end(self):
        numbers = source("doubt without end")
        for letters, outs, most, wrong in itertools.product((1, 2), (2, 6), (1, 4), (0, 1, 4)):
            caller = DoubtCaller(self, letters, outs, most, wrong)
            last = caller.play(lambda word: numbers.randrange(outs),
                               lambda machine: [numbers.randrange(letters) for _ in range(numbers.choice((1, 5, 20)))])
            self.assertIn(last, (("full",), ("broken", "shown")))
            caller.check_misfits()


class Arguments(unittest.TestCase):
    def test_the_constant(self):
        self.assertEqual(MAX_WRONG, 8)

    def test_numbers_in_range(self):
        for letters, outs, most, wrong in itertools.product((1, 4), (1, 6), (1, 30), (0, 1, 8)):
            asker = DoubtAsker(letters, outs, most, wrong)
            self.assertEqual(asker.step(), ("ask", []))
            self.assertEqual(asker.report(), (0, 0, 0, 0))

    def test_numbers_out_of_range(self):
        for wrong in (-1, 9, 10):
            self.assertRaises(NotAllowed, DoubtAsker, 2, 2, 5, wrong)
        for wrong in (-1, 0, 5):
            self.assertRaises(NotAllowed, DoubtAsker, wrong, 2, 5, 1)
        for wrong in (-1, 0, 7):
            self.assertRaises(NotAllowed, DoubtAsker, 2, wrong, 5, 1)
        for wrong in (-1, 0, 31):
            self.assertRaises(NotAllowed, DoubtAsker, 2, 2, wrong, 1)

    def test_play(self):
        numbers = source("doubt play")
        for letters, outs, states, wrong in ((1, 2, 5, 1), (2, 3, 6, 8), (4, 2, 10, 2), (2, 2, 30, 1)):
            secret = random_machine(numbers, letters, outs, states)
            count = len(least(secret)[2])
            for most in (3, 30):
                last = play(DoubtAsker(letters, outs, most, wrong), Honest(secret, [3, 1]))
                self.assertEqual(last, ("done", least(secret)) if count <= most else ("full",))


if __name__ == "__main__":
    unittest.main()
