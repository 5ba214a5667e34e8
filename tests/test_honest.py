"""[4.4], [4.5]: honest boxes, and the play with them."""

import itertools
import unittest

from maieutic.asker import Asker
from maieutic.errors import NotAllowed, Wrong
from maieutic.honest import MAX_STEPS, Honest, play
from maieutic.least import least
from maieutic.parts import PartsAsker
from tests import helper
from tests.test_parts import pair_machine

# Tuples of the right form that are no machines.
NO_MACHINES = (
    (0, 2, ((),), (0,)), (5, 2, ((0,) * 5,), (0,)), (1, 0, ((0,),), (0,)), (1, 7, ((0,),), (0,)), (1, 2, (), ()),
    (1, 2, ((1,),), (0,)), (1, 2, ((-1,),), (0,)), (1, 2, ((0,),), (2,)), (1, 2, ((0,),), (-1,)), (1, 2, ((0,),), (0, 0)),
    (1, 2, ((0,),), ()), (1, 2, ((0, 0),), (0,)), (2, 2, ((0,),), (0,)), (1, 2, ((0,),) * 31, (0,) * 31),
)


def wrong_words(machine, proposal):
    """The words of [4.4], found by taking all words one by one."""
    first = helper.shortest_difference(machine, proposal)
    found = []
    for length in range(len(first), len(first) + 3):
        for word in itertools.product(range(machine[0]), repeat=length):
            if helper.plain_output(machine, word) != helper.plain_output(proposal, word):
                found.append(list(word))
            if len(found) == 60:
                return found
    return found


class Replies(unittest.TestCase):
    def test_tuples_that_are_no_machines(self):
        for machine in NO_MACHINES:
            self.assertRaises(NotAllowed, Honest, machine, [])
            self.assertRaises(NotAllowed, Honest, machine, [0])

    def test_words_that_fit(self):
        numbers = helper.source(1)
        for _ in range(20):
            machine = helper.random_machine(numbers, numbers.randrange(1, 5), 3, numbers.randrange(1, 9))
            box = Honest(machine, [1])
            for length in (0, 1, 5, 400):
                word = [numbers.randrange(machine[0]) for _ in range(length)]
                self.assertEqual(box.reply(word), helper.plain_output(machine, word))

    def test_words_that_do_not_fit(self):
        box = Honest(helper.EVEN, [])
        for word in ([2], [-1], [0, 1, 2], [0] * 401):
            self.assertRaises(NotAllowed, box.reply, word)
        self.assertEqual(box.reply([1]), 0)


class Judgements(unittest.TestCase):
    def check(self, machine, proposals, picks):
        """Judge the proposals one after another, and hold each word against the list."""
        box = Honest(machine, picks)
        turn = 0
        for proposal in proposals:
            word = box.judge(proposal)
            if helper.shortest_difference(machine, proposal) is None:
                self.assertIsNone(word)
                continue
            words = wrong_words(machine, proposal)
            pick = picks[turn % len(picks)] if picks else 0
            turn += 1
            self.assertIsInstance(word, list)
            self.assertEqual(word, words[pick % len(words)])

    def test_all_small_machines(self):
        ones = list(helper.all_machines(1, 2, 2))
        for machine in ones:
            self.check(machine, ones, [])
            self.check(machine, ones, [1, 5, -3])

    def test_random_machines(self):
        numbers = helper.source(2)
        for _ in range(60):
            letters, outs = numbers.choice((1, 2, 2, 3, 4)), numbers.randrange(1, 4)
            picks = [numbers.randrange(-80, 80) for _ in range(numbers.choice((0, 1, 2, 5)))]
            machine = helper.random_machine(numbers, letters, outs, numbers.randrange(1, 5))
            proposals = [helper.random_machine(numbers, letters, outs, numbers.randrange(1, 5)) for _ in range(6)]
            self.check(machine, proposals + [least(machine)], picks)

    def test_machines_that_differ_late(self):
        for letters, states, others in ((1, 30, (29, 28, 3)), (1, 7, (30, 8)), (2, 7, (6, 5)), (3, 4, (3,))):
            for make in (helper.chain, helper.ring):
                proposals = [make(letters, other) for other in others]
                for picks in ([], [0], [1], [2], [59], [-1], [1000]):
                    self.check(make(letters, states), proposals, picks)

    def test_very_many_words(self):
        """All words of 29 letters, 4 ** 29 of them, are wrong, so they cannot be listed one by one."""
        line = (4, 2, tuple((min(state + 1, 29),) * 4 for state in range(30)), (0,) * 29 + (1,))
        nothing = (4, 2, ((0,) * 4,), (0,))
        for pick in (0, 1, 59, 60, -1):
            place = pick % 60
            last = [place // 16, place // 4 % 4, place % 4]
            self.assertEqual(Honest(line, [pick]).judge(nothing), [0] * 26 + last)

    def test_a_first_difference_of_57_letters(self):
        one, two = long_alike(29, 30)
        self.assertEqual(helper.shortest_difference(one, two), [0] * 57)
        self.check(one, [two] * 4, [0, 1, 2, 3])
        self.check(two, [one] * 4, [-1, 7])

    def test_picks_and_indexes(self):
        other = (2, 2, ((0, 1), (0, 0)), (1, 0))
        words = wrong_words(helper.EVEN, other)
        self.assertEqual(words[0], [1, 0])
        for pick in (0, 1, len(words) - 1, len(words), len(words) + 1, 5 * len(words), -1, -2, -len(words), -1000, 1000):
            self.assertEqual(Honest(helper.EVEN, [pick]).judge(other), words[pick % len(words)])
        self.assertEqual(Honest(helper.EVEN, []).judge(other), words[0])

    def test_more_proposals_than_picks(self):
        other = (2, 2, ((0, 1), (0, 0)), (1, 0))
        words = wrong_words(helper.EVEN, other)
        box = Honest(helper.EVEN, [2, 0, 1])
        self.assertEqual([box.judge(other) for _ in range(7)], [words[place] for place in (2, 0, 1, 2, 0, 1, 2)])
        box = Honest(helper.EVEN, [3])
        self.assertEqual([box.judge(other) for _ in range(2)], [words[3], words[3]])

    def test_at_most_60_words(self):
        machine, proposal = (4, 2, ((0,) * 4,), (0,)), (4, 2, ((1,) * 4, (1,) * 4), (0, 1))
        words = wrong_words(machine, proposal)
        self.assertEqual((len(words), words[59]), (60, [2, 1, 3]))
        for pick, place in ((59, 59), (60, 0), (61, 1), (-1, 59), (119, 59)):
            self.assertEqual(Honest(machine, [pick]).judge(proposal), words[place])

    def test_lengths_without_a_word(self):
        """No word of one letter more is wrong, but some of two letters more."""
        machine, proposal = helper.ring(1, 2), (1, 2, ((0,),), (0,))
        self.assertEqual(wrong_words(machine, proposal), [[0], [0, 0, 0]])
        self.check(machine, [proposal] * 4, [0, 1, 2, 3])

    def test_proposals_that_use_no_pick(self):
        other = (2, 2, ((0, 1), (0, 0)), (1, 0))
        words = wrong_words(helper.EVEN, other)
        box = Honest(helper.EVEN, [1, 2])
        alike = helper.doubled(helper.source(3), helper.EVEN)
        self.assertIsNone(box.judge(alike))
        self.assertEqual(box.judge(other), words[1])
        self.assertIsNone(box.judge(helper.EVEN))
        for bad in NO_MACHINES:
            self.assertRaises(NotAllowed, box.judge, bad)
        for bad in ((1, 2, ((0,),), (0,)), (3, 2, ((0, 0, 0),), (0,)), (2, 1, ((0, 0),), (0,)), (2, 3, ((0, 0),), (0,))):
            self.assertRaises(NotAllowed, box.judge, bad)
        self.assertEqual(box.judge(other), words[2])

    def test_lists_that_are_changed(self):
        other = (2, 2, ((0, 1), (0, 0)), (1, 0))
        words = wrong_words(helper.EVEN, other)
        picks = [1, 2]
        box = Honest(helper.EVEN, picks)
        picks[0] = 0
        picks.append(3)
        word = box.judge(other)
        self.assertEqual(word, words[1])
        word.append(0)
        self.assertEqual([box.judge(other) for _ in range(2)], [words[2], words[1]])
        self.assertEqual(picks, [0, 2, 3])


class Play(unittest.TestCase):
    def test_the_constant(self):
        self.assertEqual(MAX_STEPS, 20000)

    def test_askers(self):
        numbers = helper.source(4)
        for machine in helper.samples(numbers, 20):
            count = len(least(machine)[2])
            for most in (1, 5, 30, min(count, 30), max(1, count - 1)):
                picks = [numbers.randrange(-99, 99) for _ in range(numbers.randrange(3))]
                last = play(Asker(machine[0], machine[1], most, []), Honest(machine, picks))
                self.assertEqual(last, ("done", least(machine)) if count <= most else ("full",))

    def test_parts_askers(self):
        numbers = helper.source(5)
        for states in ((1, 1), (2, 3), (4, 4), (5, 6), (1, 7)):
            first = helper.random_machine(numbers, 1, 2, states[0])
            second = helper.random_machine(numbers, 2, 3, states[1])
            if len(least(first)[2]) * len(least(second)[2]) > 30:
                continue
            box = Honest(pair_machine(first, second), [3, 8, -2])
            self.assertEqual(play(PartsAsker((1, 2), (2, 3), 30), box), ("done", (least(first), least(second))))

    def test_a_parts_asker_with_too_many_states(self):
        box = Honest(pair_machine(helper.ring(1, 4), helper.ring(1, 2)), [])
        self.assertEqual(play(PartsAsker((1, 1), (2, 2), 3), box), ("full",))

    def test_a_last_step_at_once(self):
        asker = Asker(1, 2, 5, [])
        asker.answer(7)
        self.assertEqual(play(asker, Honest((1, 2, ((0,),), (0,)), [])), ("broken", "output"))

    def test_a_step_that_goes_on(self):
        asker = Asker(2, 2, 5, [])
        asker.answer(1)
        self.assertEqual(play(asker, Honest(helper.EVEN, [])), ("done", helper.EVEN))

    def test_a_box_that_shows_a_right_word(self):
        class Liar(Honest):
            def judge(self, proposal):
                return []
        self.assertEqual(play(Asker(2, 2, 5, []), Liar(helper.EVEN, [])), ("broken", "shown"))

    def test_a_word_that_the_box_does_not_know(self):
        self.assertRaises(NotAllowed, play, Asker(2, 2, 5, []), Honest((1, 2, ((0,),), (0,)), []))

    def test_the_number_of_replies(self):
        for kind in ("ask", "propose", "mixed"):
            for count, ends in ((0, True), (1, True), (19999, True), (20000, True), (20001, False), (10 ** 9, False)):
                asker = Endless(kind, count)
                if ends:
                    self.assertEqual(play(asker, Honest(helper.EVEN, [0, 1])), ("full",))
                    self.assertEqual(asker.replies, count)
                else:
                    self.assertRaises(Wrong, play, asker, Honest(helper.EVEN, [0, 1]))
                    self.assertEqual(asker.replies, 20000)


class Endless:
    """Has the methods of an asker, and goes on asking or proposing for so many steps."""

    def __init__(self, kind, count):
        self.kind = kind
        self.count = count
        self.replies = 0

    def step(self):
        if self.replies >= self.count:
            return ("full",)
        if self.kind == "ask" or self.kind == "mixed" and self.replies % 2:
            return ("ask", [0, 1])
        return ("propose", (2, 2, ((0, 0),), (0,)))

    def answer(self, output):
        assert self.step()[0] == "ask" and output == 0
        self.replies += 1

    def accept(self):
        raise AssertionError("the proposals are wrong")

    def show(self, word):
        assert self.step()[0] == "propose" and helper.plain_output(helper.EVEN, word) == 1
        self.replies += 1

    def report(self):
        return (0, 0, 0, 0)


def long_alike(first, second):
    """Two rings of such sizes, which have no common divisor, with the same outputs as long as possible."""
    count = first + second - 2
    marks = list(range(count))
    for _ in range(count):
        for size in (first, second):
            for place in range(count - size):
                marks[place] = marks[place + size] = min(marks[place], marks[place + size])
    assert len(set(marks)) == 2
    outputs = tuple(int(mark > 0) for mark in marks)
    return tuple((1, 2, helper.ring(1, size)[2], outputs[:size]) for size in (first, second))


if __name__ == "__main__":
    unittest.main()
