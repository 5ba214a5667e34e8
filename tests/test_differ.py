"""[1.7]: whether machines answer alike, and the first words behind which they do not."""

import itertools
import unittest

from maieutic.differ import are_alike, first_difference, parting_word
from maieutic.errors import Alike, NotAllowed
from maieutic.least import least
from tests.helper import EVEN, all_machines, chain, plain_output, plain_state, random_machine
from tests.helper import ring, shuffled, source, told_apart, words_up_to


def plain_difference(first, second):
    longest = len(first[2]) + len(second[2]) - 1
    for word in words_up_to(first[0], longest):
        if plain_output(first, word) != plain_output(second, word):
            return word
    return None


class Pairs(unittest.TestCase):
    def check_pair(self, first, second):
        word = plain_difference(first, second)
        self.assertIs(are_alike(first, second), word is None)
        if word is None:
            self.assertRaises(Alike, first_difference, first, second)
        else:
            self.assertEqual(first_difference(first, second), word)
            self.assertLess(len(word), len(first[2]) + len(second[2]))

    def test_all_pairs_of_small_machines(self):
        for first, second in itertools.product(all_machines(2, 2, 2), repeat=2):
            self.check_pair(first, second)
        for first, second in itertools.product(all_machines(1, 2, 3), all_machines(1, 2, 2)):
            self.check_pair(first, second)

    def test_random_pairs(self):
        numbers = source("pairs")
        for _ in range(60):
            first = random_machine(numbers, 2, 2, numbers.randrange(1, 5))
            self.check_pair(first, random_machine(numbers, 2, 2, numbers.randrange(1, 4)))
            self.check_pair(first, shuffled(numbers, first))

    def test_pairs_that_answer_alike(self):
        numbers = source("alike")
        for letters, outs, states in ((1, 2, 30), (4, 6, 30), (2, 2, 30), (3, 1, 12)):
            machine = random_machine(numbers, letters, outs, states)
            for other in (machine, least(machine), shuffled(numbers, machine)):
                self.assertIs(are_alike(machine, other), True)
                self.assertRaises(Alike, first_difference, machine, other)

    def test_difference_at_the_empty_word(self):
        other = (2, 2, ((0, 1), (1, 0)), (0, 1))
        self.assertIs(are_alike(EVEN, other), False)
        self.assertEqual(first_difference(EVEN, other), [])

    def test_difference_behind_a_long_word(self):
        for states in (3, 17, 30):
            self.assertEqual(first_difference(chain(2, states), (2, 2, ((0, 0),), (0,))), [0] * (states - 1))
        self.assertIs(are_alike(chain(1, 30), chain(1, 29)), False)
        self.assertEqual(first_difference(chain(4, 30), chain(4, 29)), [0] * 28)

    def test_longest_difference(self):
        # Rings of 30 and 29 states show their last states at first together, in the end only one of them.
        first = (1, 2, tuple(((state + 1) % 30,) for state in range(30)), (1,) + (0,) * 29)
        second = (1, 2, tuple((state + 1,) for state in range(29)) + ((29,),), (1,) + (0,) * 29)
        self.assertEqual(first_difference(first, second), [0] * 30)

    def test_the_first_of_several_words(self):
        zero = (3, 2, ((0, 0, 0),), (0,))
        machine = (3, 2, ((0, 1, 2), (0, 0, 3), (3, 3, 3), (3, 3, 3)), (0, 0, 0, 1))
        self.assertEqual(first_difference(zero, machine), [1, 2])
        machine = (3, 2, ((1, 1, 3), (0, 2, 2), (2, 2, 2), (3, 3, 3)), (0, 0, 1, 1))
        self.assertEqual(first_difference(zero, machine), [2])
        machine = (3, 2, ((1, 1, 0), (0, 2, 2), (2, 2, 2)), (0, 0, 1))
        self.assertEqual(first_difference(zero, machine), [0, 1])

    def test_other_letters_or_outs(self):
        others = ((1, 2, ((0,),), (1,)), (3, 2, ((0, 0, 0),), (1,)), (2, 3, EVEN[2], EVEN[3]), (2, 1, ((0, 0),), (0,)))
        for other in others:
            for function in (are_alike, first_difference):
                self.assertRaises(NotAllowed, function, EVEN, other)
                self.assertRaises(NotAllowed, function, other, EVEN)

    def test_new_list_each_time(self):
        machine = chain(1, 3)
        zero = (1, 2, ((0,),), (0,))
        first_difference(machine, zero).append(1)
        self.assertEqual(first_difference(machine, zero), [0, 0])


class States(unittest.TestCase):
    def plain_parting(self, machine, state, other):
        for word in words_up_to(machine[0], len(machine[2])):
            ends = [machine[3][plain_state(machine, word, begin)] for begin in (state, other)]
            if ends[0] != ends[1]:
                return word
        return None

    def test_all_states_of_random_machines(self):
        numbers = source("states")
        for _ in range(40):
            machine = random_machine(numbers, 2, 2, 5)
            for state, other in itertools.product(range(5), repeat=2):
                word = self.plain_parting(machine, state, other)
                if word is None:
                    self.assertRaises(Alike, parting_word, machine, state, other)
                else:
                    self.assertEqual(parting_word(machine, state, other), word)

    def test_many_states(self):
        machine = ring(2, 30)
        self.assertEqual(parting_word(machine, 0, 1), [0] * 28)
        self.assertEqual(parting_word(machine, 29, 0), [])
        self.assertEqual(len(told_apart(machine, machine)), 30 * 29)

    def test_states_that_are_not_reached(self):
        self.assertEqual(parting_word((1, 2, ((0,), (0,), (1,)), (0, 1, 0)), 0, 2), [0])

    def test_the_same_state(self):
        self.assertRaises(Alike, parting_word, EVEN, 1, 1)

    def test_no_such_state(self):
        for state, other in ((-1, 0), (0, -1), (2, 0), (0, 2), (2, 2), (-1, -1), (30, 1)):
            self.assertRaises(NotAllowed, parting_word, EVEN, state, other)


if __name__ == "__main__":
    unittest.main()
