"""[6.4] to [6.7]: the weigher."""

import itertools
import unittest

from maieutic.errors import NotAllowed
from maieutic.weigh import check_weighted, rank_of, weigh_alike, weight_difference, weight_of
from maieutic.weigher import Weigher
from maieutic.weight_learner import EndSearch
from tests.callers import PlainCaller
from tests.helper import digits, source
from tests.helper_weights import ONE, ZERO, disguised, nothing, random_fraction, random_weighted, ring_weights
from tests.helper_weights import with_idle_row, with_unmet_row


class WeighCaller(PlainCaller):
    answers = ((0, 1), (1, 2), (0, 2), (1, 0), (1, -1))

    def __init__(self, test, letters, most):
        super().__init__(test, Weigher(letters, most))
        self.letters = letters
        self.most = most

    def value_by(self, machine, word):
        return weight_of(machine, word)

    def check_bounds(self, rank):
        """The bounds of [6.5], with the rank in the place of s; `most` + 1 if it is greater than `most`."""
        s = min(rank, self.most + 1)
        binary = digits(self.longest)
        self.test.assertLessEqual(len(self.proposed), s + 1)
        self.test.assertLessEqual(len(self.asked), (s + 1) * (s + 1) * (self.letters + binary + 3))
        self.test.assertLessEqual(self.over, 2 * (s + 1))
        for machine in self.proposed:
            check_weighted(machine)
            self.test.assertEqual(machine[0], self.letters)
            self.test.assertLessEqual(len(machine[1]), min(s, self.most))


def show_first(numbers, machine, secret):
    return weight_difference(machine, secret)


def show_long(numbers, machine, secret):
    """A word that wanders before it comes to a difference."""
    for _ in range(10):
        word = [numbers.randrange(secret[0]) for _ in range(numbers.choice((0, 1, 7, 40, 150)))]
        for _ in range(14):
            if weight_of(machine, word) != weight_of(secret, word):
                return word
            word.append(numbers.randrange(secret[0]))
    return weight_difference(machine, secret)


def show_longest(numbers, machine, secret):
    """A word of 300 letters, or nearly so."""
    for length in (300, 300, 299, 298, 297, 296, 295):
        word = [numbers.randrange(secret[0]) for _ in range(length)]
        if weight_of(machine, word) != weight_of(secret, word):
            return word
    return weight_difference(machine, secret)


SHOWERS = (show_first, show_long, show_longest)


class RightAnswers(unittest.TestCase):
    def find_out(self, secret, most, shower, numbers, rank=None):
        caller = WeighCaller(self, secret[0], most)
        last = caller.play(lambda word: weight_of(secret, word),
                           lambda machine: None if weigh_alike(machine, secret) else shower(numbers, machine, secret))
        rank = rank_of(secret) if rank is None else rank
        if rank <= most:
            self.assertEqual(last[0], "done")
            self.assertEqual(last[1], caller.proposed[-1])
            self.assertEqual(len(last[1][1]), rank)
            self.assertTrue(weigh_alike(last[1], secret))
        else:
            self.assertEqual(last, ("full",))
        caller.check_bounds(rank)
        caller.check_misfits()
        return caller

    def test_ranks_0_to_7(self):
        numbers = source("weigher ranks")
        for letters, size, shower in itertools.product((1, 2, 4), range(8), SHOWERS):
            secret = random_weighted(numbers, letters, size, 2, 1 if shower == show_longest else 2)
            for most in {1, min(6, max(1, size - 1)), min(6, max(1, size)), 6}:
                self.find_out(secret, most, shower, numbers)

    def test_secrets_with_more_rows_than_their_rank(self):
        numbers = source("more rows")
        for letters, size, shower in itertools.product((1, 2, 3), (0, 1, 3, 5), SHOWERS[:2]):
            secret = random_weighted(numbers, letters, size, 2, 2)
            larger = disguised(numbers, with_idle_row(numbers, with_unmet_row(numbers, secret)))
            for most in (2, 6):
                self.find_out(larger, most, shower, numbers)

    def test_the_zero_weight(self):
        for letters, size in itertools.product((1, 4), (0, 1, 12)):
            caller = self.find_out(nothing(letters, size), 3, show_first, source(0), 0)
            self.assertEqual(len(caller.proposed), 1)

    def test_weights_that_are_seldom_other_than_0(self):
        numbers = source("rings")
        for size, factor, shower in itertools.product(range(1, 8), (1, -2), SHOWERS):
            for place in {0, size // 2, size - 1}:
                self.find_out(ring_weights(size, factor, place), 6, shower, numbers, size)

    def test_counters_with_two_letters(self):
        # The word weighs 1 if its letters 0, less those 1, are a certain number modulo the size.
        numbers = source("counters")
        for size, shower in itertools.product((2, 5, 6, 7), SHOWERS):
            up = tuple(tuple(ONE if after == (row + 1) % size else ZERO for after in range(size)) for row in range(size))
            down = tuple(tuple(ONE if after == (row - 1) % size else ZERO for after in range(size)) for row in range(size))
            unit = tuple(tuple(ONE if after == row else ZERO for after in range(size)) for row in range(size))
            for steps, place in (((up, down), 0), ((up, unit), size - 1), ((up, up), 1)):
                secret = (2, unit[0], steps, unit[place])
                for most in (size - 1, 6):
                    if most <= 6:
                        self.find_out(secret, most, shower, numbers, size)

    def test_large_weights(self):
        numbers = source("large weights")
        for letters, size in ((1, 2), (2, 3), (3, 2)):
            secret = random_weighted(numbers, letters, size, 10 ** 30, 10 ** 30)
            self.find_out(secret, 6, show_long, numbers)

    def test_a_word_that_is_shown_again_is_not_asked_again(self):
        # A proposal may be wrong for a word that is known: then this word may be shown.
        numbers = source("again")
        known = []

        def judge(machine):
            if weigh_alike(machine, secret):
                return None
            for word in sorted(caller.told, key=lambda word: (-len(word), word)):
                if weight_of(machine, list(word)) != caller.told[word]:
                    known.append(word)
                    return list(word)
            return show_long(numbers, machine, secret)

        for letters, size in itertools.product((1, 2, 3), (3, 5, 6)):
            secret = random_weighted(numbers, letters, size, 2, 1)
            caller = WeighCaller(self, letters, 6)
            last = caller.play(lambda word: weight_of(secret, word), judge)
            self.assertEqual(last[0], "done")
            caller.check_bounds(rank_of(secret))
        self.assertGreater(len(known), 5)

    def test_misfits_at_each_step(self):
        numbers = source("weigher misfits")
        secret = random_weighted(numbers, 2, 3, 2, 2)
        caller = WeighCaller(self, 2, 6)
        while caller.step()[0] in ("ask", "propose"):
            caller.check_misfits()
            step = caller.step()
            if step[0] == "ask":
                caller.reply(weight_of(secret, step[1]))
            elif weigh_alike(step[1], secret):
                caller.accept()
            else:
                caller.show(weight_difference(step[1], secret))
        caller.check_misfits()
        self.assertEqual(caller.step()[0], "done")


class FalseAnswers(unittest.TestCase):
    def check(self, letters, most, answer_to, judge):
        caller = WeighCaller(self, letters, most)
        last = caller.play(answer_to, judge)
        caller.check_bounds(most + 1)
        caller.check_misfits()
        self.assertIn(last[0], ("done", "full", "broken"))
        if last[0] == "done":
            self.assertEqual(last[1], caller.proposed[-1])
            self.assertEqual(len(caller.shown), len(caller.proposed) - 1)
        if last[0] == "broken":
            self.assertEqual(last[1], "shown")
        return last[0]

    def judges(self, numbers, letters):
        def any_word(machine):
            if numbers.randrange(12) == 0:
                return None
            return [numbers.randrange(letters) for _ in range(numbers.choice((0, 1, 2, 5, 30, 300)))]

        def always_a_word(machine):
            return [numbers.randrange(letters) for _ in range(numbers.choice((3, 9, 30, 60)))]
        return (any_word, always_a_word)

    def test_weights_of_no_machine(self):
        numbers = source("no machine")
        ends = set()
        for letters, most in itertools.product((1, 2, 4), (1, 2, 4, 6)):
            answers = (lambda word: random_fraction(numbers, 5, 4), lambda word: random_fraction(numbers, 1, 1),
                       lambda word: (int(numbers.randrange(5) == 0), 1), lambda word: (len(word) ** len(word), 1),
                       lambda word: (int(word.count(0) == len(word) - word.count(0)), 1))
            for answer_to, judge in itertools.product(answers, self.judges(numbers, letters)):
                ends.add(self.check(letters, most, answer_to, judge))
        self.assertEqual(ends, {"done", "full", "broken"})

    def test_answers_that_always_differ(self):
        # Each word that is shown is then told a weight that the proposal does not give it.
        numbers = source("differ")
        for letters, most in itertools.product((1, 3), (1, 3, 6)):
            caller = WeighCaller(self, letters, most)
            while caller.step()[0] in ("ask", "propose"):
                step = caller.step()
                if step[0] == "propose":
                    word = [numbers.randrange(letters) for _ in range(numbers.choice((4, 40, 100)))]
                    while tuple(word) in caller.told:
                        word.append(0)
                    caller.show(word)
                    caller.reply(ZERO if weight_of(step[1], word) != ZERO else ONE)
                else:
                    caller.reply(random_fraction(numbers, 2, 2))
            self.assertEqual(caller.step(), ("full",))
            self.assertEqual(len(caller.proposed), most + 1)
            caller.check_bounds(most + 1)


    def test_one_word_alone_that_weighs_something(self):
        # All that is looked at on the way from the word's end weighs 0, so the change is at its very beginning.
        for letters, most, length in itertools.product((1, 2), (1, 2, 6), (1, 2, 7, 8, 64, 255, 300)):
            shown = [0] * length
            self.check(letters, most, lambda word: (int(word == shown), 1), lambda machine: list(shown))


class Search(unittest.TestCase):
    def test_all_lengths_and_changes(self):
        numbers = source("search")
        for length in list(range(1, 70)) + [127, 128, 129, 255, 256, 257, 300, 301]:
            for change in {0, 1, length // 3, length // 2, length - 2, length - 1, numbers.randrange(length)}:
                if 0 <= change < length:
                    self.check(length, lambda place: place <= change)
            odd = {0} | {place for place in range(1, length) if numbers.randrange(3) == 0}
            self.check(length, lambda place: place in odd)

    def check(self, length, differs):
        """Look where the search says; the change is one, and there are few looks."""
        search = EndSearch(length)
        looks = []
        while search.place() is not None:
            looks.append(search.place())
            search.tell(differs(looks[-1]))
        self.assertEqual(len(looks), len(set(looks)))
        self.assertTrue(all(0 < place < length for place in looks))
        self.assertLess(len(looks), 2 * digits(length))
        found = search.found()
        self.assertTrue(differs(found))
        self.assertFalse(found + 1 < length and differs(found + 1))


class Reasons(unittest.TestCase):
    def at_question(self, replies):
        """A caller at a question, behind so many replies."""
        secret = random_weighted(source("question"), 2, 4, 3, 1)
        caller = WeighCaller(self, 2, 6)
        while replies > 0 or caller.step()[0] != "ask":
            replies -= 1
            step = caller.step()
            if step[0] == "ask":
                caller.reply(weight_of(secret, step[1]))
            else:
                caller.show(weight_difference(step[1], secret))
        return caller

    def at_proposal(self, shown, letters=2):
        """A caller at the proposal behind so many shown words, with the secret."""
        secret = random_weighted(source("proposal"), letters, 4, 3, 1)
        caller = WeighCaller(self, letters, 6)
        while len(caller.shown) < shown or caller.step()[0] != "propose":
            step = caller.step()
            if step[0] == "ask":
                caller.reply(weight_of(secret, step[1]))
            else:
                caller.show(weight_difference(step[1], secret))
        return caller, secret

    def test_answers_that_are_no_fractions(self):
        for replies in (0, 1, 3, 4, 9, 15, 22):
            for wrong in ((0, 2), (2, 4), (1, 0), (0, 0), (1, -1), (0, -1), (-6, 3)):
                caller = self.at_question(replies)
                caller.break_by(caller.asker.answer, wrong, "weight")

    def test_answers_that_are_fractions(self):
        for right in (ZERO, ONE, (-1, 1), (7, 3), (-10 ** 80, 7)):
            for replies in (0, 3, 9):
                caller = self.at_question(replies)
                caller.reply(right)

    def test_words_that_are_not_allowed(self):
        for shown, letters in itertools.product((0, 1, 2, 3), (1, 2, 4)):
            for wrong in ([-1], [letters], [0, letters, 0], [0] * 299 + [-1], [0] * 301, [letters] * 400):
                caller, _ = self.at_proposal(shown, letters)
                longest = caller.longest
                caller.break_by(caller.asker.show, wrong, "word")
                self.assertEqual(caller.asker.report()[3], longest)

    def test_words_of_300_letters_are_allowed(self):
        for shown in (0, 1, 2):
            caller, _ = self.at_proposal(shown)
            caller.show([0, 1, 1] * 100)
            self.assertEqual(caller.step(), ("ask", [0, 1, 1] * 100))
            self.assertEqual(caller.asker.report()[3], 300)

    def test_a_shown_word_that_was_told(self):
        broken = 0
        for shown in (1, 2, 3):
            words = [list(word) for word in self.at_proposal(shown)[0].told]
            for word in words:
                # The caller checks that this breaks the weigher if, and only if, the proposal gives this weight.
                caller, secret = self.at_proposal(shown)
                machine = caller.step()[1]
                caller.show(word)
                agrees = weight_of(machine, word) == weight_of(secret, word)
                self.assertIs(caller.step() == ("broken", "shown"), agrees)
                broken += agrees
                if agrees:
                    caller.check_misfits()
        self.assertGreater(broken, 5)

    def test_a_shown_word_that_is_asked(self):
        for shown in (0, 1, 2, 3):
            for word in ([0] * 20, [1, 0] * 100):
                caller, _ = self.at_proposal(shown)
                machine = caller.step()[1]
                caller.show(word)
                self.assertEqual(caller.step(), ("ask", word))
                caller.check_misfits()
                caller.reply(weight_of(machine, word))
                self.assertEqual(caller.step(), ("broken", "shown"))
                self.assertEqual(caller.asker.report()[3], len(word))
                caller.check_misfits()

    def test_last_steps_stay(self):
        for last in ("done", "full", "broken"):
            caller, _ = self.at_proposal(1)
            if last == "done":
                caller.accept()
            elif last == "broken":
                caller.break_by(caller.asker.show, [9], "word")
            else:
                caller = WeighCaller(self, 1, 1)
                secret = ring_weights(3, 1, 2)
                caller.play(lambda word: weight_of(secret, word), lambda machine: weight_difference(machine, secret))
            step = caller.step()
            self.assertEqual(step[0], last)
            for _ in range(3):
                caller.check_misfits()
                self.assertEqual(caller.step(), step)


class Arguments(unittest.TestCase):
    def test_numbers_in_range(self):
        for letters, most in itertools.product((1, 2, 3, 4), (1, 2, 5, 6)):
            weigher = Weigher(letters, most)
            self.assertIn(weigher.step()[0], ("ask", "propose"))
            self.assertEqual(weigher.report()[0], 0)

    def test_numbers_out_of_range(self):
        for wrong in (-1, 0, 5):
            self.assertRaises(NotAllowed, Weigher, wrong, 3)
        for wrong in (-1, 0, 7):
            self.assertRaises(NotAllowed, Weigher, 2, wrong)

    def test_two_weighers_in_turn(self):
        one, two = Weigher(2, 3), Weigher(2, 3)
        self.assertEqual(one.step(), two.step())
        one.show([0, 1])
        self.assertEqual(two.step()[0], "propose")
        self.assertEqual(one.step(), ("ask", [0, 1]))
        self.assertEqual(two.report(), (0, 0, 1, 0))


if __name__ == "__main__":
    unittest.main()
