"""[2.13]: tables."""

import copy
import unittest

from maieutic.errors import Alike, Missing
from maieutic.least import least
from maieutic.table import Table
from tests.helper import chain, plain_output, plain_state, random_machine, ring, source, words_up_to


def plain_rows(letters, states):
    rows = list(states)
    for word in states:
        for letter in range(letters):
            if word + [letter] not in states:
                rows.append(word + [letter])
    return rows


def row_of_outputs(table, row, known):
    return [known[tuple(row + column)] for column in table.columns()]


class Filled(unittest.TestCase):
    """Tables of a box, with each method held against the words of the document."""

    def fill(self, table, letters, box, known):
        while True:
            lacking = [row + column for row in plain_rows(letters, table.state_words()) for column in table.columns()
                       if tuple(row + column) not in known]
            kept = copy.deepcopy(known)
            word = table.wanted(known)
            self.assertEqual(word, lacking[0] if lacking else None)
            self.assertEqual(table.gaps(known), [one for at, one in enumerate(lacking) if one not in lacking[:at]])
            self.assertEqual(known, kept)
            if word is None:
                return
            known[tuple(word)] = plain_output(box, word)

    def extend(self, table, letters, known):
        states = table.state_words()
        seen = [row_of_outputs(table, word, known) for word in states]
        new = [row for row in plain_rows(letters, states)
               if row not in states and row_of_outputs(table, row, known) not in seen]
        kept = copy.deepcopy(known)
        self.assertIs(table.extend(known), bool(new))
        self.assertEqual(known, kept)
        self.assertEqual(table.state_words(), states + new[:1])
        return bool(new)

    def check_machine(self, table, letters, outs, known):
        states = table.state_words()
        rows = [row_of_outputs(table, word, known) for word in states]
        moves = []
        for word in states:
            moves.append(tuple(rows.index(row_of_outputs(table, word + [letter], known)) for letter in range(letters)))
        machine = (letters, outs, tuple(moves), tuple(known[tuple(word)] for word in states))
        self.assertEqual(table.machine(outs, known), machine)
        mistakes = [(word, column) for number, word in enumerate(states) for column in table.columns()
                    if machine[3][plain_state(machine, column, number)] != known[tuple(word + column)]]
        kept = copy.deepcopy(known)
        self.assertEqual(table.mistake(outs, known), mistakes[0] if mistakes else None)
        self.assertEqual(known, kept)
        return machine, mistakes

    def run_table(self, box, columns):
        """Fill and extend, then add a column, until there are no more columns."""
        letters, outs = box[:2]
        table, known = Table(letters), {}
        mistakes = []
        for column in [None] + columns:
            if column is not None:
                table.add_column(column)
            self.fill(table, letters, box, known)
            while self.extend(table, letters, known):
                self.fill(table, letters, box, known)
            machine, found = self.check_machine(table, letters, outs, known)
            mistakes += found
        return table, machine, mistakes

    def test_a_new_table(self):
        for letters in (1, 2, 3, 4):
            table = Table(letters)
            self.assertEqual(table.state_words(), [[]])
            self.assertEqual(table.columns(), [[]])
            self.assertEqual(table.wanted({}), [])
            self.assertEqual(table.wanted({(): 0}), [0])

    def test_columns_that_tell_all_states(self):
        numbers = source("tables")
        for letters, outs, states in ((1, 2, 6), (2, 2, 5), (3, 3, 6), (4, 6, 9), (2, 1, 4)):
            for _ in range(5):
                box = random_machine(numbers, letters, outs, states)
                columns = [word for word in words_up_to(letters, 2) if word]
                table, machine, _ = self.run_table(box, columns)
                self.assertEqual(table.columns(), [[]] + columns)
                if len(machine[2]) == len(least(box)[2]):
                    self.assertEqual(least(machine), least(box))

    def test_random_columns_and_mistakes(self):
        numbers = source("columns")
        count = 0
        for _ in range(60):
            box = random_machine(numbers, 2, 2, 8)
            columns = []
            for length in (4, 2, 5, 1, 3):
                column = [numbers.randrange(2) for _ in range(length)]
                if column not in columns:
                    columns.append(column)
            count += len(self.run_table(box, columns)[2])
        self.assertGreater(count, 0)

    def test_a_machine_of_many_states(self):
        for box in (chain(2, 12), ring(2, 12)):
            columns = [[0] * length for length in range(11, 0, -1)]
            table, machine, _ = self.run_table(box, columns)
            self.assertEqual(least(machine), least(box))
            self.assertEqual(len(table.state_words()), 12)


class Single(unittest.TestCase):
    def known(self):
        known = {}
        for word in words_up_to(2, 6):
            known[tuple(word)] = 1 if sum(word) == 2 else 0
        return known

    def test_order_of_state_words_and_rows(self):
        table, known = Table(2), self.known()
        table.add_column([1, 1])
        self.assertIs(table.extend(known), True)
        self.assertEqual(table.state_words(), [[], [1]])
        table.add_column([1])
        self.assertIs(table.extend(known), True)
        self.assertEqual(table.state_words(), [[], [1], [1, 1]])
        self.assertIs(table.extend(known), True)
        self.assertEqual(table.state_words(), [[], [1], [1, 1], [1, 1, 1]])
        self.assertIs(table.extend(known), False)
        self.assertEqual(table.columns(), [[], [1, 1], [1]])
        machine = table.machine(2, known)
        self.assertEqual(machine, (2, 2, ((0, 1), (1, 2), (2, 3), (3, 3)), (0, 0, 1, 0)))
        self.assertEqual(table.machine(5, known), (2, 5) + machine[2:])
        self.assertIsNone(table.mistake(2, known))

    def test_wanted_goes_row_by_row(self):
        table, known = Table(2), self.known()
        table.add_column([1, 1])
        table.add_column([0])
        table.extend(known)
        words = []
        for row in ([], [1], [0], [1, 0], [1, 1]):
            for column in ([], [1, 1], [0]):
                if row + column not in words:
                    words.append(row + column)
        told = {}
        for word in words:
            self.assertEqual(table.wanted(told), word)
            self.assertEqual(table.wanted(told), word)
            told[tuple(word)] = known[tuple(word)]
        self.assertIsNone(table.wanted(told))

    def test_each_dict_is_looked_at_anew(self):
        table, known = Table(1), {(): 0, (0,): 0}
        self.assertIsNone(table.wanted(known))
        self.assertEqual(table.wanted({(): 0}), [0])
        self.assertEqual(table.wanted({(0,): 0}), [])
        self.assertIsNone(table.wanted(known))

    def test_machine_with_a_missing_state_word(self):
        table, known = Table(1), {(): 0, (0,): 1, (0, 0): 0}
        self.assertRaises(Missing, table.machine, 2, known)
        table.extend(known)
        self.assertEqual(table.machine(2, known), (1, 2, ((1,), (0,)), (0, 1)))

    def test_missing_row_for_a_later_letter(self):
        table, known = Table(2), {(): 0, (0,): 0, (1,): 1}
        self.assertRaises(Missing, table.machine, 2, known)

    def test_a_mistake(self):
        # The box has 1 behind three letters only; the columns tell two states, but one of them is wrong.
        known = {(0,) * length: int(length == 3) for length in range(12)}
        table = Table(1)
        table.add_column([0, 0, 0])
        self.assertIs(table.extend(known), True)
        self.assertEqual(table.state_words(), [[], [0]])
        self.assertRaises(Missing, Table(1).machine, 2, {(): 0, (0,): 1})
        self.assertEqual(table.machine(2, known), (1, 2, ((1,), (1,)), (0, 0)))
        self.assertEqual(table.mistake(2, known), ([], [0, 0, 0]))

    def test_the_same_column_twice(self):
        table = Table(2)
        self.assertRaises(Alike, table.add_column, [])
        self.assertIsNone(table.add_column([0, 1]))
        self.assertRaises(Alike, table.add_column, [0, 1])
        self.assertEqual(table.columns(), [[], [0, 1]])
        table.add_column([1, 0])
        self.assertEqual(table.columns(), [[], [0, 1], [1, 0]])

    def test_lists_are_new_and_arguments_stay(self):
        table, column = Table(2), [0, 1]
        table.add_column(column)
        column.append(1)
        table.columns().append([7])
        table.columns()[0].append(7)
        table.columns()[1].append(7)
        table.state_words().append([7])
        table.state_words()[0].append(7)
        self.assertEqual(table.columns(), [[], [0, 1]])
        self.assertEqual(table.state_words(), [[]])
        table.wanted({}).append(1)
        self.assertEqual(table.wanted({}), [])

    def test_a_mistake_is_a_new_pair(self):
        known = {(0,) * length: int(length == 3) for length in range(12)}
        table = Table(1)
        table.add_column([0, 0, 0])
        table.extend(known)
        word, column = table.mistake(2, known)
        word.append(5)
        column.append(5)
        self.assertEqual(table.mistake(2, known), ([], [0, 0, 0]))

    def test_two_tables_in_turn(self):
        one, two, known = Table(1), Table(1), {(): 0, (0,): 1, (0, 0): 0}
        one.extend(known)
        self.assertEqual((one.state_words(), two.state_words()), ([[], [0]], [[]]))
        two.add_column([0])
        self.assertEqual((one.columns(), two.columns()), ([[]], [[], [0]]))


if __name__ == "__main__":
    unittest.main()
