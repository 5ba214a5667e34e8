"""[3.3], [3.4]: words that lead to states, and words that tell them apart."""

import unittest

from maieutic.apart import telling_words, ways_to
from maieutic.least import least
from tests import helper


def sort_key(word):
    return (len(word), word)


class Ways(unittest.TestCase):
    def plain_ways(self, machine, longest):
        """The first word to each state, by all words one by one."""
        ways = {}
        for word in helper.words_up_to(machine[0], longest):
            ways.setdefault(helper.plain_state(machine, word), word)
        return [ways.get(state) for state in range(len(machine[2]))]

    def test_small_machines(self):
        for letters, states in ((1, 3), (2, 2), (2, 3)):
            for machine in helper.all_machines(letters, 1, states):
                self.assertEqual(ways_to(machine), self.plain_ways(machine, states - 1))

    def test_random_machines(self):
        numbers = helper.source(1)
        for _ in range(60):
            machine = helper.random_machine(numbers, numbers.randrange(1, 5), 2, numbers.randrange(1, 7))
            self.assertEqual(ways_to(machine), self.plain_ways(machine, len(machine[2]) - 1))

    def test_the_first_of_several_words(self):
        self.assertEqual(ways_to((3, 1, ((1, 1, 2), (2, 3, 3), (3, 3, 3), (0, 0, 0)), (0,) * 4)), [[], [0], [2], [0, 1]])
        self.assertEqual(ways_to((2, 1, ((1, 2), (3, 3), (3, 0), (0, 0)), (0,) * 4)), [[], [0], [1], [0, 0]])

    def test_states_that_no_word_leads_to(self):
        self.assertEqual(ways_to((1, 2, ((0,), (0,), (1,)), (0, 1, 1))), [[], None, None])

    def test_a_line_of_30_states(self):
        machine = (2, 2, tuple((state, min(state + 1, 29)) for state in range(30)), (0,) * 29 + (1,))
        self.assertEqual(ways_to(machine), [[1] * state for state in range(30)])

    def test_a_line_that_begins_at_its_end(self):
        machine = (1, 2, tuple((max(state - 1, 0) if state else 29,) for state in range(30)), (0,) * 30)
        self.assertEqual(ways_to(machine), [[]] + [[0] * (30 - state) for state in range(1, 30)])

    def test_returned_lists_may_be_changed(self):
        machine = helper.ring(1, 3)
        ways = ways_to(machine)
        ways[0].append(5)
        ways[1].append(5)
        ways.append(None)
        self.assertEqual(ways[2], [0, 0])
        self.assertEqual(ways_to(machine), [[], [0], [0, 0]])


class Telling(unittest.TestCase):
    def check(self, machine):
        small = least(machine)
        count = len(small[2])
        words = telling_words(machine)
        self.assertTrue(1 <= len(words) <= max(1, count - 1))
        self.assertEqual(words, sorted(words, key=sort_key))
        self.assertEqual(len({tuple(word) for word in words}), len(words))
        for word in words:
            self.assertLessEqual(len(word), max(0, count - 2))
            self.assertTrue(all(0 <= letter < machine[0] for letter in word))
        along = {tuple(tuple(helper.plain_along(small, word, state)) for word in words) for state in range(count)}
        self.assertEqual(len(along), count)

    def test_small_machines(self):
        for letters, outs, states in ((1, 2, 1), (2, 3, 1), (1, 2, 3), (1, 3, 3), (2, 2, 2), (2, 2, 3)):
            for machine in helper.all_machines(letters, outs, states):
                self.check(machine)

    def test_machines_of_up_to_30_states(self):
        for machine in helper.samples(helper.source(2), 60):
            self.check(machine)

    def test_chains_need_long_words(self):
        for states in (2, 3, 7, 30):
            for letters in (1, 3):
                self.check(helper.chain(letters, states))
                self.check(helper.ring(letters, states))
        # The first two states differ behind the word that leads from the second one to the end, and no shorter one.
        self.assertEqual(max(len(word) for word in telling_words(helper.chain(1, 30))), 28)

    def test_states_that_are_alike_or_not_reached(self):
        self.assertEqual(telling_words((2, 2, ((0, 1), (1, 0), (0, 2)), (0, 0, 1))), [[]])
        self.check((2, 2, ((3, 0), (1, 1), (0, 3), (3, 2)), (0, 1, 0, 1)))

    def test_returned_lists_may_be_changed(self):
        machine = helper.chain(1, 4)
        words = telling_words(machine)
        words[0].append(7)
        words.append([9])
        self.check(machine)


if __name__ == "__main__":
    unittest.main()
