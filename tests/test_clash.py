"""[5.5]: beginnings that clash."""

import copy
import itertools
import unittest

from maieutic.clash import beginnings, clash_list, do_clash
from maieutic.errors import Broken, Missing, NotAllowed
from maieutic.smallest import smallest
from tests import helper
from tests.test_smallest import log_of, random_logs


def plain_beginnings(log):
    found = {()}
    for word, _ in log:
        found |= {tuple(word[:place]) for place in range(len(word) + 1)}
    return [list(word) for word in sorted(found, key=lambda word: (len(word), word))]


def plain_clash(log, first, second):
    """Whether both words, followed by one of all endings in the log, are words with different outputs."""
    told = {tuple(word): output for word, output in log}
    for word, _ in log:
        for place in range(len(word) + 1):
            one = told.get(tuple(first + word[place:]))
            two = told.get(tuple(second + word[place:]))
            if one is not None and two is not None and one != two:
                return True
    return False


class Beginnings(unittest.TestCase):
    def test_random_logs(self):
        for letters in (1, 2):
            for log in random_logs(helper.source(letters), 60, letters, 2):
                self.assertEqual(beginnings(log), plain_beginnings(log))

    def test_the_empty_log(self):
        self.assertEqual(beginnings([]), [[]])

    def test_the_empty_word(self):
        self.assertEqual(beginnings([([], 1)]), [[]])
        self.assertEqual(beginnings([([], 1), ([1], 1)]), [[], [1]])

    def test_the_order(self):
        log = [([1, 0], 0), ([0, 1, 1], 1), ([1, 0], 0), ([1, 1], 0)]
        self.assertEqual(beginnings(log), [[], [0], [1], [0, 1], [1, 0], [1, 1], [0, 1, 1]])

    def test_returned_lists_may_be_changed(self):
        log = [([0, 1], 0)]
        found = beginnings(log)
        found[0].append(1)
        found[2].append(1)
        self.assertEqual(log, [([0, 1], 0)])
        self.assertEqual(beginnings(log), [[], [0], [0, 1]])


class Clashing(unittest.TestCase):
    def test_all_pairs_of_beginnings(self):
        numbers = helper.source(3)
        found = {}
        for letters, outs in ((1, 2), (2, 2), (2, 3)):
            for log in random_logs(numbers, 25, letters, outs):
                words = plain_beginnings(log)
                others = words if len(words) <= 30 else words[-12:]
                for first, second in itertools.product(words[:30], others):
                    clash = plain_clash(log, first, second)
                    self.assertIs(do_clash(log, first, second), clash)
                    self.assertIs(do_clash(log, second, first), clash)
                    found[clash] = True
        self.assertEqual(len(found), 2)

    def test_small_logs(self):
        """All logs over the words of up to 2 letters, and all pairs of words of up to 3."""
        words = list(helper.words_up_to(2, 2))
        for outputs in itertools.product((None, 0, 1), repeat=4):
            log = [(word, output) for word, output in zip(words[:2] + words[4:6], outputs) if output is not None]
            for first, second in itertools.product(helper.words_up_to(2, 2), repeat=2):
                self.assertIs(do_clash(log, first, second), plain_clash(log, first, second))

    def test_the_empty_ending(self):
        self.assertIs(do_clash([([0], 0), ([1], 1)], [0], [1]), True)
        self.assertIs(do_clash([([0], 1), ([1], 1)], [0], [1]), False)

    def test_a_long_ending(self):
        log = [([0, 0, 1, 1], 0), ([1, 0, 1, 1], 1)]
        self.assertIs(do_clash(log, [0], [1]), True)
        self.assertIs(do_clash(log, [0, 0], [1, 0]), True)
        self.assertIs(do_clash(log, [0, 0], [1]), False)
        self.assertIs(do_clash(log, [], [1]), False)

    def test_a_word_does_not_clash_with_itself(self):
        log = [([], 1), ([0], 0), ([0, 0], 1)]
        for word in ([], [0], [0, 0], [0] * 3):
            self.assertIs(do_clash(log, word, word), False)

    def test_words_that_are_no_beginnings(self):
        log = [([], 1), ([0], 0), ([0, 0], 1)]
        for word in ([1], [0, 1], [0, 0, 0], [5], [-1]):
            for other in ([], [0], [0, 0], [1]):
                self.assertIs(do_clash(log, word, other), False)
                self.assertIs(do_clash(log, other, word), False)

    def test_the_empty_log(self):
        self.assertIs(do_clash([], [], []), False)
        self.assertIs(do_clash([], [], [0]), False)

    def test_what_was_given_stays(self):
        log, first, second = [([0], 0), ([1], 1)], [0], [1]
        do_clash(log, first, second)
        self.assertEqual((log, first, second), ([([0], 0), ([1], 1)], [0], [1]))


class Lists(unittest.TestCase):
    def check(self, letters, outs, log):
        given = copy.deepcopy(log)
        words = clash_list(letters, outs, log)
        self.assertEqual(log, given)
        begun = plain_beginnings(log)
        self.assertEqual(words, sorted(words, key=lambda word: (len(word), word)))
        self.assertEqual(len({tuple(word) for word in words}), len(words))
        for word in words:
            self.assertIn(word, begun)
        for first, second in itertools.combinations(words, 2):
            self.assertTrue(plain_clash(log, first, second))
        for other in begun:
            if other not in words:
                self.assertFalse(all(plain_clash(log, word, other) for word in words), (words, other))
        # [5.6]: the smallest machine has at least as many states.
        try:
            self.assertGreaterEqual(len(smallest(letters, outs, log)[2]), len(words))
        except Missing:
            pass
        some = len(begun) <= 40 and any(plain_clash(log, *pair) for pair in itertools.combinations(begun, 2))
        if some:
            self.assertGreaterEqual(len(words), 2)
        return len(words)

    def test_random_logs(self):
        sizes = {}
        for letters, outs in ((1, 2), (1, 3), (2, 2), (2, 3), (2, 6)):
            for log in random_logs(helper.source(letters + outs), 40, letters, outs):
                sizes[self.check(letters, outs, log)] = True
        self.assertLessEqual({1, 2, 3, 4}, set(sizes))

    def test_logs_of_chains(self):
        for states in (2, 3, 4, 6):
            log = log_of(helper.chain(1, states), helper.words_up_to(1, 10))
            self.assertEqual(self.check(1, 2, log), states)

    def test_the_first_beginning_clashes_with_none(self):
        """The empty word clashes with no word here, but the list has two words."""
        log = [([0], 0), ([1], 1)]
        self.assertEqual(clash_list(2, 2, log), [[0], [1]])
        self.assertEqual(clash_list(2, 2, [([0], 0), ([1, 1], 1)]), [[0], [1, 1]])

    def test_nothing_clashes(self):
        for log in ([], [([], 0)], [([0, 1], 0), ([1, 1, 0], 0)], [([0], 1)] * 30):
            self.assertEqual(len(clash_list(2, 2, log)), 1)
            self.check(2, 2, log)
        self.assertEqual(clash_list(1, 1, []), [[]])

    def test_pairs_that_are_there_twice(self):
        self.assertEqual(self.check(1, 2, [([], 1), ([0], 0), ([0, 0], 1)] * 10), 2)

    def test_many_words(self):
        numbers = helper.source(9)
        words = [[numbers.randrange(2) for _ in range(10)] for _ in range(30)]
        log = [(list(word), numbers.randrange(2)) for word in sorted({tuple(word) for word in words})]
        self.check(2, 2, log)

    def test_errors(self):
        twice = [([0], 0), ([0], 1)]
        self.assertRaises(Broken, clash_list, 1, 2, twice)
        for letters, outs, log in ((0, 2, []), (3, 2, []), (1, 0, []), (1, 7, []), (1, 2, [([0], 1)] * 31),
                                   (1, 2, [([0] * 11, 0)]), (1, 2, [([1], 0)]), (1, 2, [([-1], 0)]),
                                   (1, 2, [([], 2)]), (1, 2, [([], -1)]), (3, 2, twice), (1, 2, twice + [([], 2)])):
            self.assertRaises(NotAllowed, clash_list, letters, outs, log)

    def test_a_log_that_no_small_machine_fits(self):
        log = log_of(helper.chain(1, 8), helper.words_up_to(1, 10))
        self.assertRaises(Missing, smallest, 1, 2, log)
        self.assertEqual(self.check(1, 2, log), 8)


if __name__ == "__main__":
    unittest.main()
