"""[2.1] to [2.9]: the asker."""

import copy
import itertools
import unittest

from maieutic.asker import MAX_KNOWN, Asker
from maieutic.errors import Broken, NotAllowed, Wrong
from maieutic.least import least
from tests.helper import EVEN, SHOWERS, Caller, all_machines, chain, check_asker_bounds, image_digits
from tests.helper import plain_output, random_machine, ring, show_first, show_long, show_longest, source, words_up_to


def head_of(letters, outs, most, known=()):
    told = {tuple(word): output for word, output in known}
    words = sorted(told, key=lambda word: (len(word), word))
    pairs = [f"{image_digits(word)}={told[word]}" for word in words]
    return " ".join([f"{letters} {outs} {most}"] + pairs)


def caller_of(test, letters, outs, most, known=()):
    return Caller(test, Asker(letters, outs, most, list(known)), head_of(letters, outs, most, known), known)


class RightReplies(unittest.TestCase):
    def find_out(self, secret, most, shower, numbers, known=()):
        letters, outs = secret[:2]
        caller = caller_of(self, letters, outs, most, known)
        last = caller.play(secret, shower, numbers)
        found = least(secret)
        states = len(found[2])
        self.assertEqual(last, ("done", found) if states <= most else ("full",))
        check_asker_bounds(self, caller, letters, outs, most, min(states, most + 1))
        caller.check_misfits()
        return caller

    def test_all_small_machines(self):
        numbers = source("small")
        for secret in list(all_machines(1, 2, 3)) + list(all_machines(2, 2, 2)):
            for most in (1, 2, 30):
                self.find_out(secret, most, show_first, numbers)

    def test_machines_of_1_to_6_states(self):
        numbers = source("one to six")
        for letters, states, shower in itertools.product((1, 2, 3, 4), range(1, 7), SHOWERS):
            for outs in (1, 2, 3, 6):
                secret = random_machine(numbers, letters, outs, states)
                count = len(least(secret)[2])
                for most in {1, max(1, count - 1), count, count + 1, 30}:
                    self.find_out(secret, most, shower, numbers)

    def test_machines_of_up_to_30_states(self):
        numbers = source("up to thirty")
        for letters, states in ((1, 30), (2, 30), (4, 30), (3, 17), (2, 24), (4, 12)):
            for outs, shower in ((2, show_first), (2, show_long), (6, show_longest)):
                secret = random_machine(numbers, letters, outs, states)
                for most in (10, 29, 30):
                    self.find_out(secret, most, shower, numbers)

    def test_chains_and_rings(self):
        numbers = source("chains")
        for letters, states in ((1, 4), (2, 4), (4, 9), (1, 30), (2, 30)):
            for secret, shower in itertools.product((chain(letters, states), ring(letters, states)), SHOWERS):
                for most in (3, states - 1, states, 30):
                    self.find_out(secret, most, shower, numbers)

    def test_counters_that_show_few_outputs(self):
        # Few outputs and long shown words: here the table's machine is wrong in the table itself.
        numbers = source("counters")
        for states, shower in itertools.product((5, 9, 14, 23), (show_long, show_longest)):
            moves = tuple(((state * 3 + 1) % states, (state + 1) % states) for state in range(states))
            for few in (1, 2):
                outputs = tuple(int(state < few) for state in range(states))
                self.find_out((2, 2, moves, outputs), 30, shower, numbers)

    def test_with_known_words(self):
        numbers = source("known words")
        for letters, outs, states in ((1, 2, 5), (2, 2, 5), (2, 3, 8), (3, 6, 4), (4, 2, 6)):
            for count in (0, 1, 7, 60):
                secret = random_machine(numbers, letters, outs, states)
                words = [[numbers.randrange(letters) for _ in range(numbers.randrange(6))] for _ in range(count)]
                words += [word for word in words_up_to(letters, 1)]
                known = [(word, plain_output(secret, word)) for word in words]
                for most in (3, 30):
                    self.find_out(secret, most, show_long, numbers, known)

    def test_misfits_at_each_step(self):
        numbers = source("misfits")
        secret = random_machine(numbers, 2, 2, 6)
        caller = caller_of(self, 2, 2, 30)
        while caller.step()[0] in ("ask", "propose"):
            caller.check_misfits()
            step = caller.step()
            if step[0] == "ask":
                caller.reply(plain_output(secret, step[1]))
            elif least(secret) == step[1]:
                caller.accept()
            else:
                caller.show(show_first(numbers, step[1], secret))
        caller.check_misfits()
        self.assertEqual(caller.step(), ("done", least(secret)))


class Reasons(unittest.TestCase):
    def at_proposal(self, letters=2, outs=3, most=5, output=1, known=()):
        caller = caller_of(self, letters, outs, most, known)
        while caller.step()[0] == "ask":
            caller.reply(output)
        self.assertEqual(caller.step(), ("propose", (letters, outs, ((0,) * letters,), (output,))))
        return caller

    def test_an_answer_that_is_no_output(self):
        for outs, output in itertools.product((1, 2, 6), (-1, 0, 1)):
            wrong = output if output < 0 else outs + output
            for answers in (0, 1, 2):
                caller = caller_of(self, 2, outs, 5)
                for _ in range(answers):
                    caller.reply(0)
                caller.break_by(caller.asker.answer, wrong, "output")
                caller.check_misfits()

    def test_an_answer_that_is_no_output_behind_a_shown_word(self):
        caller = self.at_proposal()
        caller.show([0, 1])
        caller.break_by(caller.asker.answer, 3, "output")
        caller.check_misfits()

    def test_all_outputs_are_answers(self):
        for output in range(6):
            caller = caller_of(self, 1, 6, 5)
            caller.reply(output)
            self.assertEqual(caller.step(), ("ask", [0]))

    def test_a_shown_word_that_is_too_long(self):
        caller = self.at_proposal()
        caller.break_by(caller.asker.show, [0] * 301, "word")
        caller.check_misfits()
        self.assertEqual(caller.asker.report(), (3, 2, 1, 0))
        caller = self.at_proposal()
        caller.show([0] * 300)
        self.assertEqual(caller.step(), ("ask", [0] * 300))
        self.assertEqual(caller.asker.report(), (3, 2, 1, 300))

    def test_a_shown_word_with_other_letters(self):
        for letters in (1, 2, 3, 4):
            for word in ([-1], [letters], [0, letters], [letters, 0], [0] * 299 + [-1], [letters] * 301, [99]):
                caller = self.at_proposal(letters)
                caller.break_by(caller.asker.show, word, "word")
                caller.check_misfits()

    def test_a_shown_word_that_was_told(self):
        for word in ([], [0], [1]):
            caller = self.at_proposal()
            caller.show(word)
            self.assertEqual(caller.step(), ("broken", "shown"))
            self.assertEqual(caller.asker.report(), (3, 2, 1, len(word)))
            caller.check_misfits()

    def test_a_shown_word_that_is_asked(self):
        caller = self.at_proposal()
        caller.show([0, 1, 1])
        self.assertEqual(caller.step(), ("ask", [0, 1, 1]))
        caller.check_misfits()
        caller.reply(1)
        self.assertEqual(caller.step(), ("broken", "shown"))
        self.assertEqual(caller.asker.report(), (4, 5, 1, 3))
        caller.check_misfits()

    def test_a_shown_word_that_is_known_from_the_beginning(self):
        known = [([0, 1], 1), ([1, 1], 2)]
        caller = self.at_proposal(known=known)
        caller.show([0, 1])
        self.assertEqual(caller.step(), ("broken", "shown"))
        caller = self.at_proposal(known=known)
        caller.show([1, 1])
        self.assertEqual(caller.step()[0], "ask")
        self.assertNotEqual(caller.step()[1], [1, 1])

    def test_a_shown_word_that_was_told_in_a_later_proposal(self):
        # Each word that was told is shown at the second proposal, of which all that is in the table is right.
        secret, numbers = chain(1, 3), source("later")
        caller = caller_of(self, 1, 2, 30)
        while len(caller.proposed) < 1 or caller.step()[0] == "ask":
            step = caller.step()
            if step[0] == "ask":
                caller.reply(plain_output(secret, step[1]))
            else:
                caller.show(show_longest(numbers, step[1], secret))
        machine = caller.step()[1]
        for word, output in caller.asker.journal():
            if plain_output(machine, word) == output:
                asker = Asker(1, 2, 30, caller.asker.journal())
                asker.show(caller.shown[0])
                self.assertEqual(asker.step(), ("propose", machine))
                asker.show(word)
                self.assertEqual(asker.step(), ("broken", "shown"))

    def test_done_is_what_was_accepted(self):
        caller = self.at_proposal()
        caller.accept()
        self.assertEqual(caller.step(), ("done", (2, 3, ((0, 0),), (1,))))
        caller.check_misfits()
        self.assertEqual(caller.asker.image(), "2 3 5 | =1 =1 =1 +")

    def test_full(self):
        caller = caller_of(self, 1, 2, 1)
        caller.reply(0)
        caller.reply(1)
        self.assertEqual(caller.step(), ("full",))
        caller.check_misfits()


class FalseReplies(unittest.TestCase):
    def check(self, letters, outs, most, numbers, patience, answer_to):
        caller = caller_of(self, letters, outs, most)
        last = caller.play_falsely(numbers, answer_to, patience)
        check_asker_bounds(self, caller, letters, outs, most, most + 1)
        self.assertIn(last[0], ("done", "full", "broken"))
        if last[0] == "done":
            self.assertEqual(last[1], caller.proposed[-1])
            self.assertEqual(caller.replies[-1], "+")
        if last[0] == "broken":
            self.assertEqual(last, ("broken", "shown"))
            word = caller.shown[-1]
            self.assertEqual(caller.told[tuple(word)], plain_output(caller.proposed[-1], word))
        caller.check_misfits()
        return last[0]

    def test_random_answers(self):
        numbers = source("random answers")
        for letters, outs, most in itertools.product((1, 2, 4), (1, 2, 6), (1, 2, 5, 30)):
            for patience in (2, 50):
                self.check(letters, outs, most, numbers, patience, lambda word: numbers.randrange(outs))

    def test_answers_that_are_seldom_1(self):
        # Tables with few different rows: more proposals are made before the last step.
        numbers = source("seldom")
        ends = []
        for seldom in (3, 8, 20):
            for letters, most in itertools.product((1, 2, 3), (1, 2, 4, 7, 30)):
                for _ in range(4):
                    ends.append(self.check(letters, 2, most, numbers, 9,
                                           lambda word: int(numbers.randrange(seldom) == 0)))
        self.assertEqual(set(ends), {"done", "full", "broken"})

    def test_answers_of_no_machine(self):
        # 1 behind words with as many letters 0 as letters 1: no machine with finitely many states.
        numbers = source("no machine")
        for most in (1, 2, 3, 6, 12, 30):
            for _ in range(5):
                self.check(2, 2, most, numbers, 100, lambda word: int(word.count(0) == word.count(1)))

    def test_differences_that_are_none_until_asked(self):
        # Each shown word is answered otherwise than the proposal says, so it never breaks by `shown`.
        numbers = source("stubborn")
        for letters, outs, most in itertools.product((1, 2, 3), (2, 3), (1, 2, 5, 11, 30)):
            caller = caller_of(self, letters, outs, most)
            while True:
                step = caller.step()
                if step[0] == "propose":
                    length = numbers.choice((1, 2, 4, 9, 60, 300))
                    word = [numbers.randrange(letters) for _ in range(length)]
                    while tuple(word) in caller.told:
                        word.append(0)
                    caller.show(word[:300])
                    if caller.step()[0] == "ask":
                        caller.reply((plain_output(caller.proposed[-1], word) + 1) % outs)
                elif step[0] == "ask":
                    caller.reply(int(numbers.randrange(10) == 0))
                else:
                    break
            self.assertEqual(step, ("full",))
            check_asker_bounds(self, caller, letters, outs, most, most + 1)


class Known(unittest.TestCase):
    def test_the_constant(self):
        self.assertEqual(MAX_KNOWN, 400)

    def test_numbers_of_pairs(self):
        words = list(words_up_to(2, 8))
        pairs = [(word, 0) for word in words]
        self.assertEqual(len(Asker(2, 2, 5, pairs[:400]).journal()), 400)
        self.assertRaises(NotAllowed, Asker, 2, 2, 5, pairs[:401])
        self.assertEqual(Asker(2, 2, 5, [([1], 1)] * 400).journal(), [([1], 1)])
        self.assertRaises(NotAllowed, Asker, 2, 2, 5, [([1], 1)] * 401)
        self.assertRaises(NotAllowed, Asker, 2, 2, 5, [([1], 1)] * 200 + [([1], 0)] * 201)

    def test_pairs_given_twice(self):
        asker = Asker(2, 2, 5, [([1], 1), ([], 0), ([1], 1), ([], 0), ([0, 0], 1)])
        self.assertEqual(asker.journal(), [([], 0), ([1], 1), ([0, 0], 1)])
        self.assertEqual(asker.image(), "2 2 5 .=0 1=1 00=1 |")

    def test_order_of_words(self):
        known = [([1, 1], 0), ([0, 2], 1), ([2], 1), ([], 2), ([0, 1, 0], 0), ([1, 0], 2)]
        asker = Asker(3, 3, 5, known)
        self.assertEqual(asker.image(), "3 3 5 .=2 2=1 02=1 10=2 11=0 010=0 |")
        self.assertEqual(asker.journal(), [([], 2), ([2], 1), ([0, 2], 1), ([1, 0], 2), ([1, 1], 0), ([0, 1, 0], 0)])

    def test_long_words(self):
        asker = Asker(1, 2, 5, [([0] * 400, 1)])
        self.assertEqual(asker.journal(), [([0] * 400, 1)])
        self.assertEqual(asker.step(), ("ask", []))
        self.assertRaises(NotAllowed, Asker, 1, 2, 5, [([0] * 401, 1)])
        self.assertRaises(NotAllowed, Asker, 1, 2, 5, [([], 1), ([0] * 401, 1)])

    def test_letters_and_outputs_out_of_range(self):
        for letters, outs in itertools.product((1, 2, 4), (1, 2, 6)):
            for word, output in (([letters], 0), ([-1], 0), ([0, letters], 0), ([0], outs), ([0], -1), ([], outs)):
                self.assertRaises(NotAllowed, Asker, letters, outs, 5, [(word, output)])
                self.assertRaises(NotAllowed, Asker, letters, outs, 5, [([], 0), (word, output)])
            Asker(letters, outs, 5, [([letters - 1], outs - 1)])

    def test_a_word_with_two_outputs(self):
        twice = [([0], 0), ([], 1), ([0], 1)]
        self.assertRaises(Broken, Asker, 1, 2, 5, twice)
        self.assertRaises(Broken, Asker, 1, 2, 5, [([], 0), ([], 1)])
        for number, wrong in ((0, 0), (0, 5), (1, 0), (1, 7), (2, 0), (2, 31)):
            numbers = [1, 2, 5]
            numbers[number] = wrong
            self.assertRaises(NotAllowed, Asker, *numbers, twice)
        for wrong in (([1], 0), ([0, 0], 2), ([0] * 401, 0), ([0], -1)):
            self.assertRaises(NotAllowed, Asker, 1, 2, 5, twice + [wrong])
            self.assertRaises(NotAllowed, Asker, 1, 2, 5, [wrong] + twice)
        self.assertRaises(NotAllowed, Asker, 1, 2, 5, twice + [([], 1)] * 398)
        self.assertRaises(Broken, Asker, 1, 2, 5, twice + [([], 1)] * 397)

    def test_a_proposal_may_contradict_a_known_pair(self):
        asker = Asker(1, 2, 5, [([], 0), ([0], 0), ([0, 0, 0], 1)])
        self.assertEqual(asker.step(), ("propose", (1, 2, ((0,),), (0,))))
        asker.show([0, 0, 0])
        self.assertEqual(asker.report(), (0, 0, 1, 3))
        self.assertEqual(asker.step()[0], "ask")

    def test_the_journal_of_an_earlier_asker(self):
        numbers = source("journals")
        for letters, outs, states in ((1, 2, 6), (2, 2, 5), (2, 3, 7), (3, 2, 4), (4, 6, 6)):
            for most, shower in ((30, show_long), (3, show_first), (30, show_longest)):
                secret = random_machine(numbers, letters, outs, states)
                earlier = caller_of(self, letters, outs, most)
                last = earlier.play(secret, shower, numbers)
                journal = earlier.asker.journal()
                self.assertLessEqual(len(journal), 400)
                later = caller_of(self, letters, outs, most, journal)
                for word, machine in zip(earlier.shown, earlier.proposed):
                    self.assertEqual(later.step(), ("propose", machine))
                    later.show(word)
                if last[0] == "done":
                    self.assertEqual(later.step(), ("propose", last[1]))
                    later.accept()
                self.assertEqual(later.step(), last)
                self.assertEqual(later.asked, [])
                self.assertEqual(later.asker.journal(), journal)

    def test_known_words_change_no_proposal(self):
        numbers = source("no influence")
        for _ in range(20):
            secret = random_machine(numbers, 2, 2, 6)
            plain = caller_of(self, 2, 2, 30)
            plain.play(secret, show_first, numbers)
            known = [(word, plain_output(secret, word)) for word in words_up_to(2, 4) if numbers.randrange(2)]
            other = caller_of(self, 2, 2, 30, known)
            other.play(secret, show_first, numbers)
            self.assertEqual(other.proposed, plain.proposed)


class Lists(unittest.TestCase):
    def test_the_given_list_may_be_changed_afterwards(self):
        known = [([], 0), ([0], 1), ([0, 1], 0)]
        kept = copy.deepcopy(known)
        asker = Asker(2, 2, 5, known)
        seen = (asker.step(), asker.journal(), asker.image())
        self.assertEqual(known, kept)
        known[1][0].append(1)
        known.append(([1], 0))
        known[0] = ([], 1)
        self.assertEqual((asker.step(), asker.journal(), asker.image()), seen)
        self.assertEqual(asker.step(), ("ask", [1]))

    def test_a_returned_journal_may_be_changed(self):
        asker = Asker(2, 2, 5, [([], 0), ([0], 1)])
        journal = asker.journal()
        journal[0][0].append(1)
        journal.append(([1], 0))
        self.assertEqual(asker.journal(), [([], 0), ([0], 1)])
        self.assertEqual(asker.step(), ("ask", [1]))

    def test_a_shown_word_may_be_changed_afterwards(self):
        asker = Asker(1, 2, 5, [([], 0), ([0], 0)])
        word = [0, 0]
        asker.show(word)
        word.append(0)
        self.assertEqual(asker.step(), ("ask", [0, 0]))
        asker.answer(1)
        self.assertEqual(asker.journal(), [([], 0), ([0], 0), ([0, 0], 1)])

    def test_two_askers_in_turn(self):
        one, two = Asker(2, 2, 5, []), Asker(2, 2, 5, [])
        one.answer(1)
        self.assertEqual(two.report(), (0, 0, 0, 0))
        self.assertEqual(two.step(), ("ask", []))
        two.answer(0)
        self.assertEqual(one.journal(), [([], 1)])
        self.assertEqual(two.journal(), [([], 0)])


class Arguments(unittest.TestCase):
    def test_numbers_in_range(self):
        for letters, outs, most in itertools.product((1, 4), (1, 6), (1, 30)):
            asker = Asker(letters, outs, most, [])
            self.assertEqual(asker.image(), f"{letters} {outs} {most} |")
            self.assertEqual(asker.step(), ("ask", []))
            self.assertEqual(asker.report(), (0, 0, 0, 0))
            self.assertEqual(asker.journal(), [])

    def test_numbers_out_of_range(self):
        for wrong in (-1, 0, 5):
            self.assertRaises(NotAllowed, Asker, wrong, 2, 5, [])
        for wrong in (-1, 0, 7):
            self.assertRaises(NotAllowed, Asker, 2, wrong, 5, [])
        for wrong in (-1, 0, 31):
            self.assertRaises(NotAllowed, Asker, 2, 2, wrong, [])

    def test_wrong_comes_before_all(self):
        asker = Asker(*EVEN[:2], 5, [])
        self.assertRaises(Wrong, asker.show, [7])
        self.assertRaises(Wrong, asker.accept)
        self.assertEqual(asker.image(), "2 2 5 |")


if __name__ == "__main__":
    unittest.main()
