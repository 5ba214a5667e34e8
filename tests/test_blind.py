"""[3.5]: what a list of words cannot see."""

import copy
import unittest

from maieutic.blind import blind_machine, unused_moves
from maieutic.errors import Missing, NotAllowed
from maieutic.least import least
from maieutic.machines import check_machine
from maieutic.suite import suite_words
from tests import helper


def plain_unused(machine, words):
    """The moves that are not among those that the words make."""
    small = least(machine)
    used = [(helper.plain_state(small, word[:place]), word[place]) for word in words for place in range(len(word))]
    return [(state, letter) for state in range(len(small[2])) for letter in range(small[0])
            if (state, letter) not in used]


def random_words(numbers, letters):
    return [[numbers.randrange(letters) for _ in range(numbers.randrange(6))] for _ in range(numbers.randrange(5))]


def word_of_all_moves(machine):
    """Words that use every move: each letter behind the way to each state."""
    small = least(machine)
    found = []
    ways = {0: []}
    for word in helper.words_up_to(small[0], len(small[2])):
        ways.setdefault(helper.plain_state(small, word), word)
        if len(ways) == len(small[2]):
            break
    for way in ways.values():
        for letter in range(small[0]):
            found.append(way + [letter])
    return found


class Moves(unittest.TestCase):
    def test_random_words(self):
        for machine in helper.samples(helper.source(1), 40):
            words = random_words(helper.source(len(machine[2])), machine[0])
            self.assertEqual(unused_moves(machine, words), plain_unused(machine, words))

    def test_no_words(self):
        everything = [(0, 0), (0, 1), (1, 0), (1, 1)]
        for words in ([], [[]], [[], []]):
            self.assertEqual(unused_moves(helper.EVEN, words), everything)

    def test_the_last_letter_is_a_move(self):
        self.assertEqual(unused_moves(helper.EVEN, [[1]]), [(0, 0), (1, 0), (1, 1)])
        self.assertEqual(unused_moves(helper.EVEN, [[1, 1, 0], [1, 0]]), [])

    def test_one_state(self):
        one = (3, 2, ((0, 0, 0),), (1,))
        self.assertEqual(unused_moves(one, [[1]]), [(0, 0), (0, 2)])
        self.assertEqual(unused_moves(one, [[1, 0], [2]]), [])

    def test_the_states_are_those_of_the_least_machine(self):
        machine = (1, 2, ((2,), (2,), (3,), (0,)), (0, 1, 1, 0))
        self.assertEqual(least(machine), (1, 2, ((1,), (2,), (0,)), (0, 1, 0)))
        self.assertEqual(unused_moves(machine, [[0, 0]]), [(2, 0)])
        twice = helper.doubled(helper.source(2), helper.EVEN)
        self.assertEqual(unused_moves(twice, [[0, 1, 0]]), [(1, 1)])

    def test_words_that_do_not_fit(self):
        for bad in ([2], [-1], [0, 0, 5], [0] * 401):
            self.assertRaises(NotAllowed, unused_moves, helper.EVEN, [bad])
            self.assertRaises(NotAllowed, unused_moves, helper.EVEN, [[0, 1, 0, 1], bad])
        self.assertEqual(unused_moves(helper.EVEN, [[0] * 400]), [(0, 1), (1, 0), (1, 1)])

    def test_words_stay(self):
        words = [[0, 1], [1]]
        unused_moves(helper.EVEN, words)
        self.assertEqual(words, [[0, 1], [1]])


class Blind(unittest.TestCase):
    def check(self, machine, words):
        small = least(machine)
        given = copy.deepcopy(words)
        if len(small[2]) == 1 or not plain_unused(machine, words):
            self.assertRaises(Missing, blind_machine, machine, words)
            return False
        other = blind_machine(machine, words)
        self.assertEqual(words, given)
        check_machine(other)
        self.assertEqual(other[:2], machine[:2])
        self.assertLessEqual(len(other[2]), len(small[2]))
        self.assertIsNotNone(helper.shortest_difference(machine, other))
        for word in words:
            self.assertEqual(helper.plain_along(machine, word), helper.plain_along(other, word))
        return True

    def test_small_machines(self):
        for letters, outs, states in ((1, 2, 3), (1, 3, 2), (2, 2, 2), (3, 2, 2), (2, 2, 3)):
            for machine in helper.all_machines(letters, outs, states):
                for words in ([], [[0] * states], [[letter] for letter in range(letters)]):
                    self.check(machine, words)

    def test_each_move_alone(self):
        """All moves are used but one; which one it is, is tried for each."""
        for machine in helper.samples(helper.source(3), 40):
            small = least(machine)
            for state in range(min(len(small[2]), 8)):
                for letter in range(small[0]):
                    cut = cut_words(small, (state, letter))
                    self.assertIn((state, letter), plain_unused(machine, cut))
                    self.check(machine, cut)

    def test_random_words(self):
        numbers = helper.source(4)
        found = []
        for machine in helper.samples(numbers, 80):
            found.append(self.check(machine, random_words(numbers, machine[0])))
        self.assertEqual(sorted(set(found)), [False, True])

    def test_words_that_use_every_move(self):
        for machine in helper.samples(helper.source(5), 20):
            if machine[0] <= 2 and len(least(machine)[2]) <= 6:
                words = word_of_all_moves(machine)
                self.assertEqual(unused_moves(machine, words), [])
                self.assertRaises(Missing, blind_machine, machine, words)

    def test_a_suite_uses_every_move(self):
        for machine in helper.all_machines(2, 2, 3):
            if len(least(machine)[2]) > 1:
                self.assertEqual(unused_moves(machine, suite_words(machine, 0)), [])

    def test_one_state(self):
        for machine in ((1, 2, ((0,),), (0,)), (2, 2, ((1, 0), (0, 1)), (1, 1)), (2, 2, ((0, 0), (0, 0)), (0, 1))):
            for words in ([], [[]], [[0]]):
                self.assertRaises(Missing, blind_machine, machine, words)

    def test_words_that_do_not_fit_come_first(self):
        one = (2, 2, ((0, 0),), (0,))
        for machine in (helper.EVEN, one):
            for bad in ([2], [-1], [0] * 401):
                self.assertRaises(NotAllowed, blind_machine, machine, [bad])
                self.assertRaises(NotAllowed, blind_machine, machine, [[0, 1, 0, 1], bad])

    def test_the_example_has_one_result(self):
        self.assertEqual(blind_machine(helper.EVEN, [[0, 1, 0]]), (2, 2, ((0, 1), (1, 1)), (1, 0)))


def cut_words(small, move):
    """For each state and letter a word that uses this move, if there is one that does not use the barred move."""
    ways = {0: []}
    queue = [0]
    words = []
    while queue:
        state = queue.pop(0)
        for letter, after in enumerate(small[2][state]):
            if (state, letter) != move:
                words.append(ways[state] + [letter])
                if after not in ways:
                    ways[after] = ways[state] + [letter]
                    queue.append(after)
    return words


if __name__ == "__main__":
    unittest.main()
