"""[1.6]: states that are alike, and least machines."""

import unittest

from maieutic.least import classes, least
from maieutic.machines import check_machine
from tests.helper import all_machines, chain, is_least, is_numbered_in_order, plain_output
from tests.helper import random_machine, ring, shortest_difference, shuffled, source, told_apart, words_up_to


def plain_classes(machine):
    apart = told_apart(machine, machine)
    count = len(machine[2])
    return [min(other for other in range(count) if (state, other) not in apart) for state in range(count)]


class Classes(unittest.TestCase):
    def test_alike_states(self):
        self.assertEqual(classes((1, 2, ((1,), (2,), (3,), (0,)), (0, 1, 0, 1))), [0, 1, 0, 1])

    def test_states_that_are_not_reached_count(self):
        self.assertEqual(classes((1, 2, ((0,), (1,), (1,)), (0, 1, 1))), [0, 1, 1])
        self.assertEqual(classes((1, 2, ((2,), (1,), (2,)), (0, 0, 0))), [0, 0, 0])

    def test_states_with_the_same_output_that_differ_later(self):
        self.assertEqual(classes(chain(1, 5)), [0, 1, 2, 3, 4])

    def test_small_machines(self):
        for machine in list(all_machines(1, 2, 3)) + list(all_machines(2, 2, 2)):
            self.assertEqual(classes(machine), plain_classes(machine))

    def test_machines_of_many_states(self):
        numbers = source("classes")
        for letters in (1, 2, 3, 4):
            for outs in (1, 2, 6):
                machine = random_machine(numbers, letters, outs, 30)
                self.assertEqual(classes(machine), plain_classes(machine))
        self.assertEqual(classes(chain(2, 30)), list(range(30)))
        self.assertEqual(classes(ring(1, 30)), list(range(30)))

    def test_new_list_each_time(self):
        machine = chain(1, 3)
        classes(machine).append(5)
        self.assertEqual(classes(machine), [0, 1, 2])


class Least(unittest.TestCase):
    def check_least(self, machine):
        found = least(machine)
        check_machine(found)
        self.assertEqual(found[:2], machine[:2])
        self.assertTrue(is_least(found))
        self.assertIsNone(shortest_difference(found, machine))

    def test_all_small_machines(self):
        for machine in list(all_machines(1, 2, 3)) + list(all_machines(2, 2, 2)):
            self.check_least(machine)

    def test_answers_word_by_word(self):
        numbers = source("word by word")
        for _ in range(30):
            machine = random_machine(numbers, 2, 2, 5)
            found = least(machine)
            for word in words_up_to(2, 6):
                self.assertEqual(plain_output(found, word), plain_output(machine, word))

    def test_alike_states_are_one(self):
        self.assertEqual(least((2, 2, ((1, 2), (1, 2), (2, 1)), (0, 0, 0))), (2, 2, ((0, 0),), (0,)))

    def test_states_that_are_not_reached_are_left_out(self):
        self.assertEqual(least((1, 3, ((2,), (0,), (0,)), (1, 2, 0))), (1, 3, ((1,), (0,)), (1, 0)))

    def test_a_least_machine_is_its_own(self):
        machine = (2, 2, ((1, 2), (3, 2), (2, 2), (2, 2)), (0, 0, 0, 1))
        self.assertEqual(least(machine), machine)
        self.assertEqual(least(chain(4, 30)), chain(4, 30))

    def test_numbering(self):
        machine = (2, 4, ((3, 1), (2, 0), (2, 2), (1, 3)), (0, 1, 2, 3))
        self.assertEqual(least(machine), (2, 4, ((1, 2), (2, 1), (3, 0), (3, 3)), (0, 3, 1, 2)))
        self.assertFalse(is_numbered_in_order(machine))

    def test_states_in_another_order(self):
        numbers = source("another order")
        for letters, outs, states in ((1, 2, 6), (2, 2, 6), (3, 3, 9), (4, 6, 30), (2, 2, 30), (2, 1, 30)):
            machine = random_machine(numbers, letters, outs, states)
            for _ in range(5):
                self.assertEqual(least(shuffled(numbers, machine)), least(machine))

    def test_machines_of_30_states(self):
        numbers = source("thirty")
        for letters in (1, 2, 3, 4):
            for outs in (1, 2, 6):
                self.check_least(random_machine(numbers, letters, outs, 30))
        self.check_least(ring(3, 30))
        self.assertEqual(len(least(ring(3, 30))[2]), 30)

    def test_outs_stay_although_not_used(self):
        self.assertEqual(least((1, 6, ((0,),), (0,))), (1, 6, ((0,),), (0,)))


if __name__ == "__main__":
    unittest.main()
