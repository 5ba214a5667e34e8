"""[1.8]: machines side by side."""

import itertools
import unittest

from maieutic.beside import beside, own_parts
from maieutic.errors import NotAllowed
from maieutic.least import least
from maieutic.machines import check_machine
from tests.helper import all_machines, chain, is_least, plain_output, random_machine, ring, source, words_up_to


class Beside(unittest.TestCase):
    def check_words(self, first, second, whole, words):
        for word in words:
            own = [letter for letter in word if letter < first[0]]
            others = [letter - first[0] for letter in word if letter >= first[0]]
            output = plain_output(first, own) * second[1] + plain_output(second, others)
            self.assertEqual(plain_output(whole, word), output)

    def check_pair(self, first, second, words):
        whole = beside(first, second)
        check_machine(whole)
        self.assertEqual(whole[:2], (first[0] + second[0], first[1] * second[1]))
        self.assertTrue(is_least(whole))
        self.check_words(first, second, whole, words)

    def test_small_pairs(self):
        words = list(words_up_to(2, 4))
        for first, second in itertools.product(all_machines(1, 2, 2), repeat=2):
            self.check_pair(first, second, words)

    def test_random_pairs(self):
        numbers = source("beside")
        for letters, outs in (((1, 3), (3, 2)), ((3, 1), (2, 3)), ((2, 2), (1, 6)), ((1, 2), (6, 1)), ((2, 1), (2, 2))):
            for _ in range(6):
                first = random_machine(numbers, letters[0], outs[0], 5)
                second = random_machine(numbers, letters[1], outs[1], 6)
                words = list(words_up_to(sum(letters), 3))
                words += [[numbers.randrange(sum(letters)) for _ in range(60)] for _ in range(20)]
                self.check_pair(first, second, words)

    def test_sums_of_letters(self):
        for one, two in ((1, 3), (2, 2), (3, 1)):
            self.assertEqual(beside(chain(one, 2), chain(two, 2))[0], 4)
        for one, two in ((1, 4), (2, 3), (3, 2), (4, 1), (4, 4)):
            self.assertRaises(NotAllowed, beside, chain(one, 2), chain(two, 2))
            self.assertRaises(NotAllowed, beside, chain(one, 1, 1), chain(two, 1, 1))

    def test_products_of_outs(self):
        for one, two in ((1, 6), (2, 3), (3, 2), (6, 1)):
            self.assertEqual(beside(chain(1, 2, one), chain(1, 2, two))[1], 6)
        for one, two in ((2, 4), (3, 3), (4, 2), (2, 6), (6, 6)):
            self.assertRaises(NotAllowed, beside, chain(1, 2, one), chain(1, 2, two))
            self.assertRaises(NotAllowed, beside, (1, one, ((0,),), (0,)), (1, two, ((0,),), (0,)))

    def test_numbers_of_states(self):
        for one, two in ((5, 6), (30, 1), (1, 30), (15, 2), (3, 10)):
            outs = (2 if one > 1 else 1, 2 if two > 1 else 1)
            self.assertEqual(len(beside(ring(1, one, outs[0]), ring(2, two, outs[1]))[2]), 30)
        for one, two in ((31 // 2 + 1, 2), (4, 8), (6, 6), (30, 2), (30, 30), (11, 3)):
            self.assertRaises(NotAllowed, beside, ring(1, one), ring(1, two))
            self.assertRaises(NotAllowed, beside, chain(2, one), chain(2, two))

    def test_more_pairs_of_states_than_states_of_the_least_machine(self):
        numbers = source("few states")
        # 30 states that are all alike, or two classes of them, or states that are not reached.
        flat = random_machine(numbers, 2, 1, 30)
        double = (1, 2, tuple(((state + 1) % 30,) for state in range(30)), (0, 1) * 15)
        hidden = (1, 2, ((1,), (0,)) + ring(1, 28)[2], (0, 1) + ring(1, 28)[3])
        words = list(words_up_to(3, 4))
        for first, second, states in ((flat, double, 2), (double, flat, 2), (flat, hidden, 2), (flat, ring(1, 30), 30)):
            self.check_pair(first, second, words)
            self.assertEqual(len(beside(first, second)[2]), states)
        self.check_pair(double, hidden, list(words_up_to(2, 5)))
        self.assertEqual(len(beside(double, hidden)[2]), 4)

    def test_the_least_machine_has_all_pairs_of_least_states(self):
        numbers = source("all pairs")
        for _ in range(20):
            first = random_machine(numbers, 1, 2, 5)
            second = random_machine(numbers, 2, 3, 5)
            count = len(least(first)[2]) * len(least(second)[2])
            self.assertEqual(len(beside(first, second)[2]), count)


class OwnParts(unittest.TestCase):
    def test_empty_word(self):
        self.assertEqual(own_parts([], 1), ([], []))
        self.assertEqual(own_parts([], 3), ([], []))

    def test_words_of_one_part(self):
        self.assertEqual(own_parts([0, 1, 1, 0], 2), ([0, 1, 1, 0], []))
        self.assertEqual(own_parts([2, 3, 2], 2), ([], [0, 1, 0]))

    def test_mixed_words(self):
        self.assertEqual(own_parts([1, 0, 3, 2, 0], 1), ([0, 0], [0, 2, 1]))
        self.assertEqual(own_parts([3, 2, 1, 0], 3), ([2, 1, 0], [0]))
        self.assertEqual(own_parts([0, 1, 2, 3], 1), ([0], [0, 1, 2]))

    def test_the_word_stays_and_lists_are_new(self):
        word = [0, 2, 1, 3]
        parts = own_parts(word, 4)
        parts[0].append(9)
        parts[1].append(9)
        self.assertEqual(word, [0, 2, 1, 3])
        self.assertEqual(own_parts(word, 4), ([0, 2, 1, 3], []))


if __name__ == "__main__":
    unittest.main()
