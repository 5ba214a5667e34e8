"""[1.9]: machines and words as texts."""

import itertools
import unittest

from maieutic.errors import BadForm
from maieutic.notation import machine_text, read_machine, read_word, word_text
from tests.helper import EVEN, all_machines, random_machine, source, words_up_to

SIGNS = " 0123456789:;-+.,_xA~!"

# As the document words it: `letters outs:`, and for each state ` output next next ..`, by semicolons.
SAMPLES = (
    EVEN,
    (1, 1, ((0,),), (0,)),
    (4, 6, ((0, 0, 0, 0),), (5,)),
    (1, 2, tuple((after,) for after in list(range(1, 13)) + [0]), (0, 1) + (0,) * 11),
)


def plain_text(machine):
    letters, outs, moves, outputs = machine
    states = [" " + " ".join(map(str, (output,) + row)) for row, output in zip(moves, outputs)]
    return str(letters) + " " + str(outs) + ":" + ";".join(states)


def changed_texts(text):
    """The text with one sign changed, left out, put in or doubled, or two neighbours swapped."""
    for at in range(len(text) + 1):
        for sign in SIGNS:
            yield text[:at] + sign + text[at:]
            yield text[:at] + sign + text[at + 1:]
        yield text[:at] + text[at + 1:]
        yield text[:at] + text[at:at + 1] * 2 + text[at + 1:]
        yield text[:at] + text[at:at + 2][::-1] + text[at + 2:]


class Machines(unittest.TestCase):
    def test_there_and_back(self):
        numbers = source("texts")
        machines = list(all_machines(1, 2, 2)) + list(all_machines(2, 2, 2)) + list(SAMPLES)
        for letters, outs, states in itertools.product((1, 2, 3, 4), (1, 2, 6), (1, 9, 10, 11, 30)):
            machines.append(random_machine(numbers, letters, outs, states))
        for machine in machines:
            text = machine_text(machine)
            self.assertEqual(text, plain_text(machine))
            self.assertEqual(read_machine(text), machine)
        self.assertEqual(len({machine_text(machine) for machine in machines}), len(set(machines)))

    def test_the_example_of_the_document(self):
        self.assertEqual(machine_text(EVEN), "2 2: 1 0 1; 0 1 0")

    def refuse(self, *texts):
        for text in texts:
            with self.subTest(text=text):
                self.assertRaises(BadForm, read_machine, text)

    def test_one_sign_changed(self):
        for machine in SAMPLES:
            for text in changed_texts(machine_text(machine)):
                self.check_text(text)

    def test_texts_of_other_machines_are_read(self):
        self.assertEqual(read_machine("2 3: 1 0 1; 0 1 0"), (2, 3) + EVEN[2:])
        self.assertEqual(read_machine("2 2: 1 1 1; 0 1 0"), (2, 2, ((1, 1), (1, 0)), (1, 0)))

    def check_text(self, text):
        """A text is read only if it is the text of what is read."""
        try:
            machine = read_machine(text)
        except BadForm:
            return
        self.assertEqual(plain_text(machine), text)

    def test_spaces(self):
        self.refuse("2 2: 1 0 1;  0 1 0", "2  2: 1 0 1; 0 1 0", "2 2:  1 0 1; 0 1 0", "2 2: 1 0  1; 0 1 0",
                    " 2 2: 1 0 1; 0 1 0", "2 2: 1 0 1; 0 1 0 ", "2 2 : 1 0 1; 0 1 0", "2 2: 1 0 1 ; 0 1 0",
                    "2 2: 1 0 1;0 1 0", "2 2:1 0 1; 0 1 0", "22: 1 0 1; 0 1 0", "2 2: 1 01; 0 1 0")

    def test_leading_zeros_and_other_numbers(self):
        self.refuse("02 2: 1 0 1; 0 1 0", "2 02: 1 0 1; 0 1 0", "2 2: 01 0 1; 0 1 0", "2 2: 1 00 1; 0 1 0",
                    "2 2: 1 0 01; 0 1 0", "2 2: +1 0 1; 0 1 0", "2 2: 1 -0 1; 0 1 0", "2 2: 1 0 1.0; 0 1 0",
                    "2 2: 1 0 1_0; 0 1 0", "2 2: 1 0 a; 0 1 0", "2 2: 1 0 " + "1" * 5000 + "; 0 1 0",
                    "1" * 5000 + " 2: 1 0 1; 0 1 0", "2 2: 1 0 " + "0" * 5000 + "; 0 1 0")

    def test_missing_and_further_numbers(self):
        self.refuse("2: 1 0 1; 0 1 0", "2 2 2: 1 0 1; 0 1 0", "2 2: 1 0; 0 1 0", "2 2: 1 0 1; 0 1",
                    "2 2: 1 0 1 0; 0 1 0", "2 2: 1 0 1; 0 1 0 0", "2 2: 1; 0 1 0", "2 2:; 0 1 0",
                    ": 1 0 1; 0 1 0", "2 2: 1 0 1; 0 1 0;", "2 2: 1 0 1;; 0 1 0", "2 2:", "2 2: ", "2 2", "2 2: ;")

    def test_colons_and_semicolons(self):
        self.refuse("2 2 1 0 1; 0 1 0", "2 2:: 1 0 1; 0 1 0", "2 2: 1 0 1: 0 1 0", "2 2; 1 0 1; 0 1 0",
                    "2 2: 1 0 1, 0 1 0", "2 2: 1 0 1; 0 1 0:")

    def test_numbers_out_of_range(self):
        self.refuse("0 1: 0", "5 1: 0 0 0 0 0 0", "1 0: 0 0", "1 7: 0 0", "1 1: 1 0", "1 6: 6 0", "1 1: 0 1",
                    "1 1: 0 -1", "1 1: -1 0", "2 2: 2 0 1; 0 1 0", "2 2: 1 0 2; 0 1 0", "1 1: 0 99", "1 1: 0 100")

    def test_numbers_of_states(self):
        self.assertEqual(len(read_machine("1 1:" + ";".join([" 0 0"] * 30))[2]), 30)
        self.refuse("1 1:" + ";".join([" 0 0"] * 31), "1 1:" + ";".join([" 0 0"] * 3000))

    def test_empty_texts(self):
        self.refuse("", " ", ":", ";", ": ;", "-")


class Words(unittest.TestCase):
    def test_there_and_back(self):
        words = list(words_up_to(4, 4)) + [[3, 0, 2, 1] * 100, [0] * 400]
        for word in words:
            text = word_text(word)
            self.assertEqual(text, " ".join(map(str, word)) if word else "-")
            self.assertEqual(read_word(text), word)

    def test_lengths(self):
        self.assertEqual(read_word(" ".join(["2"] * 400)), [2] * 400)
        self.assertRaises(BadForm, read_word, " ".join(["2"] * 401))

    def test_one_sign_changed(self):
        for word in ([], [0], [3], [1, 0, 2], [2, 2, 3, 0]):
            for text in changed_texts(word_text(word)):
                try:
                    found = read_word(text)
                except BadForm:
                    continue
                self.assertEqual(word_text(found), text)
                self.assertTrue(all(0 <= letter <= 3 for letter in found))

    def test_other_texts(self):
        texts = ("", " ", "1  0", " 1 0", "1 0 ", "01", "00", "1 00", "4", "0 4", "-1", "1 -", "- 1", "--", "1 -1",
                 "1,0", "10", "33", "+1", "a", "1 a", "1 0 ;", ".", "9" * 5000, " -", "- ", "1_0", "1.0", "0x1")
        for text in texts:
            with self.subTest(text=text):
                self.assertRaises(BadForm, read_word, text)

    def test_the_word_stays_and_lists_are_new(self):
        word = [1, 0, 2]
        word_text(word)
        self.assertEqual(word, [1, 0, 2])
        read_word("-").append(3)
        read_word("1 2").append(3)
        self.assertEqual((read_word("-"), read_word("1 2")), ([], [1, 2]))


if __name__ == "__main__":
    unittest.main()
