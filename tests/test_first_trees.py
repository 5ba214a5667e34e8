"""[7.2], [7.4], [7.5]: first trees, least tree machines, first differences.

With 6 states first trees have at most 63 symbols, and first differences fewer than 400. What is said of larger
trees is tested with machines that have more states than there may be.
"""

import itertools
import unittest

from maieutic.errors import Alike, Missing, NotAllowed
from maieutic.first_trees import first_trees, least_tree_machine, tree_difference
from maieutic.trees import check_tree_machine
from tests.helper import source
from tests.helper_trees import ALL_RANKS, VALUES, all_tree_machines, answer_alike, doubling, plain_first_trees
from tests.helper_trees import plain_tree_difference, plain_tree_output, plain_tree_state, random_tree_machine, reordered
from tests.helper_trees import trees_up_to, with_treeless_state, with_twin


def tree_order(tree):
    return (len(tree), list(tree))


def one_by_one(machine, size):
    """The first trees of up to so many symbols, found by taking all trees in their order."""
    firsts = [None] * len(machine[3])
    for tree in trees_up_to(machine[0], size):
        state = plain_tree_state(machine, tree)
        if firsts[state] is None:
            firsts[state] = list(tree)
    return firsts


def grown(sizes):
    """A machine whose states have first trees of these sizes, each made of one or two earlier ones."""
    states = len(sizes)
    unary = [0] * states
    binary = [0] * states ** 2
    for state in range(1, states):
        made = False
        for kid in range(state):
            if not made and sizes[kid] + 1 == sizes[state]:
                unary[kid], made = state, True
        for one, two in itertools.product(range(state), repeat=2):
            if not made and sizes[one] + sizes[two] + 1 == sizes[state]:
                binary[one * states + two], made = state, True
        assert made
    return ((0, 1, 2), 2, ((0,), tuple(unary), tuple(binary)), (0,) * (states - 1) + (1,))


class FirstTrees(unittest.TestCase):
    def test_all_small_machines(self):
        for ranks, states, size in (((0,), 2, 1), ((0, 1), 3, 4), ((0, 0, 1), 2, 4), ((1, 0), 2, 3), ((0, 2), 2, 5)):
            for machine in all_tree_machines(ranks, 1, states):
                self.assertEqual(first_trees(machine), one_by_one(machine, size))

    def test_random_machines(self):
        numbers = source("first trees")
        for ranks in ALL_RANKS:
            for _ in range(12):
                machine = random_tree_machine(numbers, ranks, 2, numbers.randrange(1, 7))
                firsts = first_trees(machine)
                self.assertEqual(firsts, plain_first_trees(machine))
                size = 6 if len(ranks) < 4 else 4
                for found, plain in zip(firsts, one_by_one(machine, size)):
                    self.assertTrue(found == plain or plain is None and (found is None or len(found) > size))

    def test_states_that_no_tree_has(self):
        machine = ((1, 0), 2, ((0, 0, 0), (2,)), (0, 1, 1))
        self.assertEqual(first_trees(machine), [[0, 1], None, [1]])
        numbers = source("no tree")
        for ranks in ALL_RANKS:
            machine = random_tree_machine(numbers, ranks, 2, 4)
            self.assertEqual(first_trees(with_treeless_state(numbers, machine)), plain_first_trees(machine) + [None])

    def test_equal_sizes(self):
        # Symbols of the same rank, and kids in both orders: the lists decide.
        machine = ((2, 0, 0, 2), 2, (tuple(int(p != q) + 2 for p in range(4) for q in range(4)), (1,), (0,), (2,) * 16),
                   (0, 1, 0, 1))
        self.assertEqual(first_trees(machine), [[2], [1], [0, 1, 1], [0, 1, 2]])
        turned = ((2, 0, 0, 2), 2, ((2,) * 16, (1,), (0,), tuple(int(p < q) + 2 for p in range(4) for q in range(4))),
                  (0, 1, 0, 1))
        self.assertEqual(first_trees(turned), [[2], [1], [0, 1, 1], [3, 2, 1]])
        # A list with a lesser symbol later comes first only if the symbols before are the same.
        machine = ((0, 1, 1, 0), 2, ((0,), (2, 3, 2, 3), (3, 2, 2, 3), (1,)), (0, 0, 0, 0))
        self.assertEqual(first_trees(machine), [[0], [3], [1, 0], [1, 3]])

    def test_two_to_the_number_of_states(self):
        for states in range(1, 7):
            firsts = first_trees(doubling(states))
            self.assertEqual([len(tree) for tree in firsts], [2 ** (state + 1) - 1 for state in range(states)])
            self.assertEqual(firsts, plain_first_trees(doubling(states)))

    def test_at_most_400_symbols(self):
        sizes = [1, 3, 7, 15, 31, 63, 127, 255, 383, 399, 400]
        machine = grown(sizes)
        self.assertEqual([len(tree) for tree in first_trees(machine)], sizes)
        self.assertEqual(first_trees(machine), plain_first_trees(machine))
        for more in ([401], [402], [401, 402], [511]):
            machine = grown(sizes[:9] + [385, 399, 400] + more if more == [402] else sizes + more)
            expected = [tree if len(tree) <= 400 else None for tree in plain_first_trees(machine)]
            self.assertIn(None, expected)
            self.assertEqual(first_trees(machine), expected)
        self.assertEqual([tree and len(tree) for tree in first_trees(doubling(9))], [1, 3, 7, 15, 31, 63, 127, 255, None])

    def test_the_returned_lists_may_be_changed(self):
        first_trees(VALUES)[0].append(9)
        self.assertEqual(first_trees(VALUES), [[0], [1]])


class Least(unittest.TestCase):
    def check(self, machine):
        small = least_tree_machine(machine)
        self.assertTrue(answer_alike(machine, small))
        self.assertEqual(small[:2], machine[:2])
        firsts = plain_first_trees(small)
        self.assertNotIn(None, firsts)
        self.assertEqual(firsts, sorted(firsts, key=tree_order))
        self.assertEqual(least_tree_machine(small), small)
        return small

    def test_all_small_machines(self):
        # The fewest states: no machine with fewer states answers alike.
        for ranks, states in (((0, 1), 2), ((0, 0), 2), ((1, 0), 3), ((0, 2), 2)):
            fewer = [one for count in range(1, states) for one in all_tree_machines(ranks, 2, count)]
            for machine in all_tree_machines(ranks, 2, states):
                small = self.check(machine)
                alike = [one for one in fewer if answer_alike(one, machine)]
                best = min([len(one[3]) for one in alike] + [states])
                self.assertEqual(len(small[3]), best)

    def test_random_machines(self):
        numbers = source("least trees")
        for ranks, outs in itertools.product(ALL_RANKS, (1, 2, 4)):
            for _ in range(6):
                machine = random_tree_machine(numbers, ranks, outs, numbers.randrange(1, 7))
                small = self.check(machine)
                check_tree_machine(small)
                for other in (reordered(numbers, machine), with_treeless_state(numbers, machine),
                              with_twin(numbers, machine, numbers.randrange(len(machine[3])))):
                    self.assertEqual(least_tree_machine(other), small)
                    self.assertEqual(least_tree_machine(reordered(numbers, other)), small)

    def test_states_alike(self):
        machine = ((0, 0, 1), 2, ((0,), (1,), (2, 3, 0, 1)), (0, 0, 1, 1))
        self.assertEqual(least_tree_machine(machine), ((0, 0, 1), 2, ((0,), (0,), (1, 0)), (0, 1)))

    def test_states_that_differ_only_beside_a_state_without_a_tree(self):
        # With the state 2 beside them the states 0 and 1 would differ, but no tree has it.
        rule = (0, 1, 0, 1, 0, 2, 0, 2, 2)
        machine = ((0, 0, 2), 2, ((0,), (1,), rule), (0, 0, 1))
        self.assertEqual(least_tree_machine(machine), ((0, 0, 2), 2, ((0,), (0,), (0,)), (0,)))

    def test_states_that_differ_only_as_second_kids(self):
        rule = tuple(q for p in range(3) for q in (0, 2, 2))
        machine = ((0, 0, 2), 2, ((0,), (1,), rule), (0, 0, 1))
        small = self.check(machine)
        self.assertEqual(len(small[3]), 3)

    def test_the_numbering(self):
        self.assertEqual(least_tree_machine(((1, 0), 2, ((0, 0, 0), (2,)), (0, 1, 1))), ((1, 0), 2, ((1, 1), (0,)), (1, 0)))
        # The first tree of a class of states is the first one of all its states.
        machine = ((0, 1, 0), 2, ((2,), (0, 1, 0), (1,)), (1, 0, 0))
        self.assertEqual([tree for tree in first_trees(machine)], [[1, 0], [2], [0]])
        self.assertEqual(least_tree_machine(machine), ((0, 1, 0), 2, ((0,), (2, 1, 2), (1,)), (0, 0, 1)))

    def test_doubling(self):
        numbers = source("doubling")
        for states in range(1, 7):
            machine = doubling(states)
            self.assertEqual(least_tree_machine(machine), machine)
            self.assertEqual(least_tree_machine(reordered(numbers, machine)), machine)

    def test_first_trees_of_more_than_400_symbols(self):
        numbers = source("more than 400")
        for machine in (doubling(9), doubling(10), grown([1, 3, 7, 15, 31, 63, 127, 255, 383, 399, 400, 401])):
            small = least_tree_machine(machine)
            self.assertEqual(least_tree_machine(reordered(numbers, machine)), small)
            self.assertEqual(least_tree_machine(small), small)
            self.assertTrue(answer_alike(machine, small))
        self.assertEqual(least_tree_machine(doubling(10)), doubling(10))


class Differences(unittest.TestCase):
    def check(self, first, second):
        tree = plain_tree_difference(first, second)
        if tree is None:
            self.assertTrue(answer_alike(first, second))
            self.assertRaises(Alike, tree_difference, first, second)
        else:
            self.assertEqual(tree_difference(first, second), tree)
            self.assertNotEqual(plain_tree_output(first, tree), plain_tree_output(second, tree))
        return tree

    def test_small_machines_tree_by_tree(self):
        numbers = source("tree by tree")
        for ranks, states, size in (((0, 1), 2, 5), ((0, 0, 1), 2, 5), ((0, 2), 2, 9), ((0, 0), 3, 1)):
            some = list(all_tree_machines(ranks, 2, states))
            for _ in range(300):
                first, second = numbers.choice(some), numbers.choice(some)
                trees = [tree for tree in trees_up_to(ranks, size)
                         if plain_tree_output(first, tree) != plain_tree_output(second, tree)]
                self.assertEqual(self.check(first, second), list(trees[0]) if trees else None)

    def test_random_machines(self):
        numbers = source("differences")
        for ranks, outs in itertools.product(ALL_RANKS, (1, 2, 4)):
            for _ in range(4):
                first = random_tree_machine(numbers, ranks, outs, numbers.randrange(1, 5))
                self.check(first, random_tree_machine(numbers, ranks, outs, numbers.randrange(1, 5)))
                # Nearly the same machine: one state with another output.
                outputs = list(first[3])
                outputs[numbers.randrange(len(outputs))] = numbers.randrange(outs)
                self.check(first, first[:3] + (tuple(outputs),))

    def test_machines_that_answer_alike(self):
        numbers = source("alike trees")
        for ranks in ALL_RANKS:
            machine = random_tree_machine(numbers, ranks, 2, 5)
            for other in (machine, reordered(numbers, machine), with_twin(numbers, machine, 2),
                          with_treeless_state(numbers, machine), least_tree_machine(machine)):
                self.assertRaises(Alike, tree_difference, machine, other)
                self.assertRaises(Alike, tree_difference, other, machine)

    def test_other_ranks_or_outs(self):
        first = ((0, 1), 2, ((0,), (0,)), (0,))
        for other in (((0, 2), 2, ((0,), (0,)), (0,)), ((1, 0), 2, ((0,), (0,)), (0,)), ((0,), 2, ((0,),), (0,)),
                      ((0, 1), 1, ((0,), (0,)), (0,)), ((0, 1), 3, ((0,), (0,)), (0,)), ((0, 1, 0), 2, ((0,),) * 3, (0,))):
            self.assertRaises(NotAllowed, tree_difference, first, other)
            self.assertRaises(NotAllowed, tree_difference, other, first)

    def test_large_differences(self):
        nothing = ((0, 2), 2, ((0,), (0,)), (0,))
        for states in range(2, 7):
            self.assertEqual(self.check(doubling(states), nothing), first_trees(doubling(states))[-1])
            self.assertEqual(len(tree_difference(nothing, doubling(states))), 2 ** states - 1)

    def test_differences_of_more_than_400_symbols(self):
        nothing = ((0, 1, 2), 2, ((0,), (0,), (0,)), (0,))
        sizes = [1, 3, 7, 15, 31, 63, 127, 255, 383, 399, 400]
        self.assertEqual(len(tree_difference(grown(sizes), nothing)), 400)
        for machine in (grown(sizes + [401]), grown(sizes[:8] + [511])):
            self.assertRaises(Missing, tree_difference, machine, nothing)
            self.assertRaises(Missing, tree_difference, nothing, machine)
            self.assertRaises(Alike, tree_difference, machine, machine)
            self.assertRaises(NotAllowed, tree_difference, machine, ((0, 1, 2), 1) + nothing[2:])

    def test_the_returned_list_may_be_changed(self):
        other = ((0, 0, 1, 2), 2, ((0,), (1,), (1, 0), (0, 1, 1, 1)), (0, 1))
        tree_difference(VALUES, other).append(9)
        self.assertEqual(tree_difference(VALUES, other), [3, 0, 1])


if __name__ == "__main__":
    unittest.main()
