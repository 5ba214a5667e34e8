"""[2.11] and [2.12]: the asker for two machines side by side."""

import itertools
import unittest

from maieutic.beside import beside
from maieutic.errors import NotAllowed, Wrong
from maieutic.least import least
from maieutic.parts import PartsAsker
from tests.helper import SHOWERS, Caller, all_machines, chain, digits, plain_output, random_machine, ring
from tests.helper import show_first, show_long, source

# Letters and outs of both parts.
KINDS = (((1, 1), (2, 2)), ((2, 1), (2, 3)), ((1, 3), (3, 2)), ((2, 2), (2, 2)), ((3, 1), (1, 6)), ((1, 2), (6, 1)))


def caller_of(test, letters, outs, most):
    head = " ".join(str(number) for number in letters + outs + (most,))
    return Caller(test, PartsAsker(letters, outs, most), head)


def pair_machine(first, second):
    """Both machines side by side with a state for each pair of states, as many as there are."""
    width = len(second[2])
    moves, outputs = [], []
    for (state, row), (other, other_row) in itertools.product(enumerate(first[2]), enumerate(second[2])):
        moves.append(tuple(after * width + other for after in row) + tuple(state * width + after for after in other_row))
        outputs.append(first[3][state] * second[1] + second[3][other])
    return (first[0] + second[0], first[1] * second[1], tuple(moves), tuple(outputs))


def parts_of(whole, letters, outs):
    """The least machines of both parts of a machine that works like two side by side."""
    first = (letters[0], outs[0], tuple(row[:letters[0]] for row in whole[2]),
             tuple(output // outs[1] for output in whole[3]))
    second = (letters[1], outs[1], tuple(row[letters[0]:] for row in whole[2]),
              tuple(output % outs[1] for output in whole[3]))
    return least(first), least(second)


def split(word, letters):
    """The own words of both parts, with the letters that they have side by side."""
    return ([letter for letter in word if letter < letters], [letter for letter in word if letter >= letters])


def check_bounds(test, caller, letters, outs, most, states):
    """The bounds of [2.12], with these numbers of states in the place of n and m."""
    one, two = states
    binary = digits(caller.longest)
    words = one * one * (letters[0] + 1) + one * (binary + 2)
    words += two * two * (letters[1] + 1) + two * (binary + 2)
    test.assertLessEqual(len(caller.asked), words + 2 * (one + two))
    test.assertLessEqual(len(caller.proposed), one + two)
    for machine in caller.proposed:
        first, second = parts_of(machine, letters, outs)
        test.assertLessEqual(max(len(first[2]), len(second[2])), most)
        test.assertEqual(machine, beside(first, second))


class RightReplies(unittest.TestCase):
    def find_out(self, first, second, most, shower, numbers):
        letters, outs = (first[0], second[0]), (first[1], second[1])
        caller = caller_of(self, letters, outs, most)
        last = caller.play(pair_machine(first, second), shower, numbers)
        one, two = least(first), least(second)
        states = (len(one[2]), len(two[2]))
        if max(states) <= most and states[0] * states[1] <= 30:
            self.assertEqual(last, ("done", (one, two)))
        else:
            self.assertEqual(last, ("full",))
        check_bounds(self, caller, letters, outs, most, tuple(min(count, most + 1) for count in states))
        caller.check_misfits()
        return caller

    def test_small_machines(self):
        numbers = source("small parts")
        machines = list(all_machines(1, 2, 2))
        for first, second in itertools.product(machines, machines):
            for most in (1, 30):
                self.find_out(first, second, most, show_first, numbers)

    def test_machines_of_1_to_4_states(self):
        numbers = source("parts of four")
        for (letters, outs), shower in itertools.product(KINDS, SHOWERS):
            for sizes in itertools.product((1, 2, 3, 4), repeat=2):
                first = random_machine(numbers, letters[0], outs[0], sizes[0])
                second = random_machine(numbers, letters[1], outs[1], sizes[1])
                for most in (2, 4, 30):
                    self.find_out(first, second, most, shower, numbers)

    def test_as_many_states_as_allowed(self):
        numbers = source("many parts")
        for first, second in ((chain(1, 5), ring(2, 6)), (ring(1, 30), chain(1, 1)), (chain(2, 2), ring(1, 15)),
                              (chain(1, 1), chain(3, 30)), (ring(3, 10), ring(1, 3))):
            for shower in SHOWERS:
                for most in (4, 14, 30):
                    self.find_out(first, second, most, shower, numbers)

    def test_more_states_side_by_side_than_allowed(self):
        numbers = source("too many parts")
        for first, second in ((chain(1, 6), ring(2, 6)), (ring(1, 30), ring(1, 2)), (chain(2, 4), chain(1, 8)),
                              (random_machine(numbers, 2, 2, 12), random_machine(numbers, 2, 3, 9))):
            for shower in SHOWERS:
                caller = self.find_out(first, second, 30, shower, numbers)
                self.assertEqual(caller.step(), ("full",))

    def test_part_words_are_few_although_there_are_many_pairs(self):
        caller = self.find_out(ring(2, 5), ring(2, 6), 30, show_first, source("few words"))
        self.assertEqual(len(caller.step()[1][0][2]) * len(caller.step()[1][1][2]), 30)
        for word in caller.asked:
            if word not in caller.shown:
                self.assertIn([], split(word, 2))

    def test_misfits_at_each_step(self):
        numbers = source("misfits of parts")
        first, second = random_machine(numbers, 1, 2, 4), random_machine(numbers, 2, 3, 4)
        secret = pair_machine(first, second)
        caller = caller_of(self, (1, 2), (2, 3), 30)
        while caller.step()[0] in ("ask", "propose"):
            caller.check_misfits()
            step = caller.step()
            if step[0] == "ask":
                caller.reply(plain_output(secret, step[1]))
            elif least(secret) == step[1]:
                caller.accept()
            else:
                caller.show(show_long(numbers, step[1], secret))
        self.assertEqual(caller.step(), ("done", (least(first), least(second))))


class Reasons(unittest.TestCase):
    """Two parts of one letter and two outs; a word's output is x * 2 + y."""

    def at_proposal(self):
        caller = caller_of(self, (1, 1), (2, 2), 30)
        while caller.step()[0] == "ask":
            self.assertIn(caller.step()[1], ([], [0], [1]))
            caller.reply(1)
        self.assertEqual(caller.step(), ("propose", (2, 4, ((0, 0),), (1,))))
        return caller

    def check_broken(self, caller, reason):
        self.assertEqual(caller.step(), ("broken", reason))
        caller.check_misfits()

    def test_an_answer_that_is_no_output(self):
        for wrong in (-1, 4, 6):
            caller = caller_of(self, (1, 1), (2, 2), 30)
            caller.break_by(caller.asker.answer, wrong, "output")
            caller.check_misfits()
            caller = self.at_proposal()
            caller.show([0, 1])
            caller.break_by(caller.asker.answer, wrong, "output")
        caller = caller_of(self, (1, 3), (2, 3), 30)
        caller.reply(5)
        caller.break_by(caller.asker.answer, 6, "output")

    def test_a_shown_word_that_is_not_allowed(self):
        for word in ([2], [-1], [0, 1, 2], [0] * 301, [1] * 300 + [2]):
            caller = self.at_proposal()
            caller.break_by(caller.asker.show, word, "word")
            caller.check_misfits()
        caller = self.at_proposal()
        caller.show([1] * 300)
        self.assertEqual(caller.step(), ("ask", [1] * 300))

    def test_a_shown_word_behind_which_the_proposal_is_right(self):
        for word in ([], [0], [1]):
            caller = self.at_proposal()
            caller.show(word)
            self.check_broken(caller, "shown")
        for word in ([0, 0], [1, 1], [0, 1], [1, 0, 0, 1]):
            caller = self.at_proposal()
            caller.show(word)
            self.assertEqual(caller.step(), ("ask", word))
            caller.reply(1)
            self.check_broken(caller, "shown")

    def test_an_own_word_that_changes_the_other_part(self):
        # The empty word is answered by x = 0, y = 1; each answer in turn changes the part that does not move.
        for word, output in itertools.product(([0], [1]), range(4)):
            caller = caller_of(self, (1, 1), (2, 2), 30)
            while caller.step()[1] != word:
                caller.reply(1)
            caller.reply(output)
            right = output % 2 == 1 if word == [0] else output // 2 == 0
            if right:
                self.assertIn(caller.step()[0], ("ask", "propose"))
            else:
                self.check_broken(caller, "parts")

    def test_a_shown_own_word_that_changes_the_other_part(self):
        for word, output in itertools.product(([0, 0], [1, 1], [0] * 300, [1] * 300), (0, 2, 3)):
            caller = self.at_proposal()
            caller.show(word)
            self.assertEqual(caller.step(), ("ask", word))
            caller.reply(output)
            right = output % 2 == 1 if word[0] == 0 else output // 2 == 0
            if right:
                self.assertIn(caller.step()[0], ("ask", "propose"))
            else:
                self.check_broken(caller, "parts")

    def test_neither_part_differs(self):
        for output in (0, 2, 3):
            caller = self.at_proposal()
            caller.show([0, 1, 1, 0])
            self.assertEqual(caller.step(), ("ask", [0, 1, 1, 0]))
            caller.reply(output)
            self.assertEqual(caller.step(), ("ask", [0, 0]))
            caller.reply(1)
            self.assertEqual(caller.step(), ("ask", [1, 1]))
            caller.reply(1)
            self.check_broken(caller, "parts")
            self.assertEqual(caller.asker.image(), f"1 1 2 2 30 | =1 =1 =1 -0110 ={output} =1 =1")

    def test_neither_part_differs_and_both_own_words_are_known(self):
        for word in ([0, 1], [1, 0]):
            caller = self.at_proposal()
            caller.show(word)
            self.assertEqual(caller.step(), ("ask", word))
            caller.reply(3)
            self.check_broken(caller, "parts")

    def test_the_first_part_differs(self):
        caller = self.at_proposal()
        caller.show([1, 0, 0, 1])
        caller.reply(2)
        self.assertEqual(caller.step(), ("ask", [0, 0]))
        caller.reply(3)
        while caller.step()[0] == "ask":
            # The second part's own word is not asked, and nothing else of it either.
            self.assertNotIn(1, caller.step()[1])
            caller.reply(3 if len(caller.step()[1]) % 3 == 2 else 1)
        self.assertEqual(caller.step()[0], "propose")
        self.assertEqual(parts_of(caller.step()[1], (1, 1), (2, 2)),
                         ((1, 2, ((1,), (2,), (0,)), (0, 0, 1)), (1, 2, ((0,),), (1,))))

    def test_the_second_part_differs(self):
        caller = self.at_proposal()
        caller.show([1, 0, 0, 1])
        caller.reply(2)
        self.assertEqual(caller.step(), ("ask", [0, 0]))
        caller.reply(1)
        self.assertEqual(caller.step(), ("ask", [1, 1]))
        caller.reply(0)
        while caller.step()[0] == "ask":
            self.assertNotIn(0, caller.step()[1])
            caller.reply(0 if len(caller.step()[1]) >= 2 else 1)
        self.assertEqual(parts_of(caller.step()[1], (1, 1), (2, 2)),
                         ((1, 2, ((0,),), (0,)), (1, 2, ((1,), (2,), (2,)), (1, 1, 0))))

    def test_the_first_part_alone_is_looked_up(self):
        # Behind [0, 0, 1] the own word [1] is known; [0, 0] has to be asked.
        caller = self.at_proposal()
        caller.show([0, 0, 1])
        caller.reply(0)
        self.assertEqual(caller.step(), ("ask", [0, 0]))
        caller.reply(1)
        self.check_broken(caller, "parts")

    def test_done_is_the_pair_of_parts(self):
        caller = self.at_proposal()
        caller.accept()
        self.assertEqual(caller.step(), ("done", ((1, 2, ((0,),), (0,)), (1, 2, ((0,),), (1,)))))
        self.assertEqual(caller.asker.image(), "1 1 2 2 30 | =1 =1 =1 +")
        caller.check_misfits()

    def test_full(self):
        for word in ([0], [1]):
            caller = caller_of(self, (1, 1), (2, 2), 1)
            while caller.step()[0] == "ask":
                moved = 3 if word == [0] else 0
                caller.reply(moved if caller.step()[1] == word else 1)
            self.assertEqual(caller.step(), ("full",))
            caller.check_misfits()


class FalseReplies(unittest.TestCase):
    def check(self, letters, outs, most, numbers, answer_to, patience=9):
        caller = caller_of(self, letters, outs, most)
        last = caller.play_falsely(numbers, answer_to, patience)
        check_bounds(self, caller, letters, outs, most, (most + 1, most + 1))
        caller.check_misfits()
        if last[0] == "done":
            self.assertEqual(caller.replies[-1], "+")
            self.assertEqual(last[1], parts_of(caller.proposed[-1], letters, outs))
        else:
            self.assertIn(last, (("full",), ("broken", "shown"), ("broken", "parts")))
        return last

    def test_random_answers(self):
        numbers = source("random parts")
        for (letters, outs), most in itertools.product(KINDS, (1, 3, 30)):
            for _ in range(3):
                self.check(letters, outs, most, numbers, lambda word: numbers.randrange(outs[0] * outs[1]))

    def test_answers_that_fit_the_parts_but_no_machine(self):
        numbers = source("false parts")
        ends = set()
        for (letters, outs), most in itertools.product(KINDS, (1, 2, 5, 30)):
            for seldom in (2, 5, 12):
                def answer_to(word):
                    own = split(word, letters[0])
                    change = int(numbers.randrange(seldom) == 0)
                    if not own[0] or not own[1]:
                        return change * (outs[1] if own[0] and outs[0] > 1 else int(bool(own[1]) and outs[1] > 1))
                    return numbers.randrange(outs[0] * outs[1])
                ends.add(self.check(letters, outs, most, numbers, answer_to, 20))
        self.assertIn(("full",), ends)
        self.assertIn(("broken", "parts"), ends)
        self.assertIn(("broken", "shown"), ends)


class Arguments(unittest.TestCase):
    def test_numbers_in_range(self):
        for letters, outs, most in itertools.product(((1, 1), (1, 3), (2, 2), (3, 1)), ((1, 6), (6, 1), (2, 3), (1, 1)),
                                                     (1, 30)):
            asker = PartsAsker(letters, outs, most)
            self.assertEqual(asker.step(), ("ask", []))
            self.assertEqual(asker.report(), (0, 0, 0, 0))
            self.assertEqual(asker.journal(), [])
            self.assertEqual(asker.image(), f"{letters[0]} {letters[1]} {outs[0]} {outs[1]} {most} |")

    def test_letters_out_of_range(self):
        for letters in ((0, 1), (1, 0), (-1, 2), (2, -1), (5, 1), (1, 5), (0, 4), (4, 0)):
            self.assertRaises(NotAllowed, PartsAsker, letters, (2, 2), 5)

    def test_letters_of_both_parts(self):
        for letters in ((1, 4), (4, 1), (2, 3), (3, 2), (4, 4)):
            self.assertRaises(NotAllowed, PartsAsker, letters, (2, 2), 5)

    def test_outs_out_of_range(self):
        for outs in ((0, 1), (1, 0), (-1, 2), (-1, -1), (7, 1), (1, 7), (0, 7)):
            self.assertRaises(NotAllowed, PartsAsker, (1, 1), outs, 5)

    def test_outs_of_both_parts(self):
        for outs in ((2, 4), (4, 2), (3, 3), (6, 2), (6, 6)):
            self.assertRaises(NotAllowed, PartsAsker, (1, 1), outs, 5)

    def test_most_out_of_range(self):
        for most in (-1, 0, 31):
            self.assertRaises(NotAllowed, PartsAsker, (1, 1), (2, 2), most)

    def test_wrong_comes_before_all(self):
        asker = PartsAsker((1, 1), (2, 2), 5)
        self.assertRaises(Wrong, asker.show, [7])
        self.assertRaises(Wrong, asker.accept)
        self.assertEqual(asker.image(), "1 1 2 2 5 |")

    def test_lists_may_be_changed_afterwards(self):
        asker = PartsAsker((1, 1), (2, 2), 5)
        for _ in range(3):
            asker.answer(0)
        word = [0, 1, 0]
        asker.show(word)
        word.append(1)
        self.assertEqual(asker.step(), ("ask", [0, 1, 0]))
        asker.answer(2)
        self.assertEqual(asker.step(), ("ask", [0, 0]))
        journal = asker.journal()
        self.assertEqual(journal, [([], 0), ([0], 0), ([1], 0), ([0, 1, 0], 2)])
        journal[0][0].append(1)
        self.assertEqual(asker.journal()[0], ([], 0))


if __name__ == "__main__":
    unittest.main()
