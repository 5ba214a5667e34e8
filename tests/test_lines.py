"""[9.2]: the forms of the lines of a script."""

import itertools
import unittest

from maieutic.lines import read_command

# Good lines without TEXT, with what they say.
GOOD = {
    "show a": ("show", "a"),
    "show abcdef": ("show", "abcdef"),
    "least a zzzzzz": ("least", "a", "zzzzzz"),
    "least a a": ("least", "a", "a"),
    "run a .": ("run", "a", []),
    "run abcdef 0": ("run", "abcdef", [0]),
    "run a 0123456789": ("run", "a", [0, 1, 2, 3, 4, 5, 6, 7, 8, 9]),
    "run a 9999999": ("run", "a", [9] * 7),
    "run a 0010": ("run", "a", [0, 0, 1, 0]),
    "differ a b": ("differ", "a", "b"),
    "beside a bc def": ("beside", "a", "bc", "def"),
    "learn a 0 b": ("learn", "a", 0, "b"),
    "learn a 9 b": ("learn", "a", 9, "b"),
    "learn a 10 abcdef": ("learn", "a", 10, "abcdef"),
    "learn a 999 b": ("learn", "a", 999, "b"),
    "doubt a 8 b": ("doubt", "a", 8, "b"),
    "doubt abcdef 100 b": ("doubt", "abcdef", 100, "b"),
    "apart a 0 10": ("apart", "a", 0, 10),
    "apart a 999 9": ("apart", "a", 999, 9),
    "kills a b 0": ("kills", "a", "b", 0),
    "kills abcdef b 30": ("kills", "abcdef", "b", 30),
    "blind a": ("blind", "a", []),
    "blind a .": ("blind", "a", [[]]),
    "blind a 0 . 0 987": ("blind", "a", [[0], [], [0], [9, 8, 7]]),
    "fit 1 2": ("fit", 1, 2, []),
    "fit 0 999": ("fit", 0, 999, []),
    "fit 2 6 .=0": ("fit", 2, 6, [([], 0)]),
    "fit 2 6 01=5 9=9 .=0 01=5": ("fit", 2, 6, [([0, 1], 5), ([9], 9), ([], 0), ([0, 1], 5)]),
}

LET = {
    "let a ": ("let", "a", ""),
    "let abcdef 2 2: 1 0 1; 0 1 0": ("let", "abcdef", "2 2: 1 0 1; 0 1 0"),
    "let a x": ("let", "a", "x"),
    "let a  ": ("let", "a", " "),
    "let a  x": ("let", "a", " x"),
    "let a x  y ": ("let", "a", "x  y "),
    "let let let": ("let", "let", "let"),
    "let a   1 1: 0 0  ": ("let", "a", "  1 1: 0 0  "),
}

# The kinds of the words of each command: c the command, n a name, k a number, w a word of letters, p a pair.
KINDS = {"show": "cn", "least": "cnn", "run": "cnw", "differ": "cnn", "beside": "cnnn", "learn": "cnkn", "doubt": "cnkn",
         "apart": "cnkk", "kills": "cnnk", "blind": "cn" + "w" * 9, "fit": "ckk" + "p" * 9}

WRONG = {
    "c": ("", "Show", "sho", "shows", "lets", "0", ".", "kill", "bad"),
    "n": ("", "A", "aB", "a1", "1", "abcdefg", "a.", "a-b", "a_b", ".", "0"),
    "k": ("", "1000", "00", "01", "007", "+1", "-1", "1.", ".", "a", "0x", "1=1", "1_0"),
    "w": ("", "0.", ".0", "0.1", "..", "a", "0a", "-", "-1", "+0", "0=1", "1,0"),
    "p": ("", "0", ".", "=", "=1", "0=", "0==1", "0=1=1", "0=10", "0=a", "0=.", "a=1", "0.=1", ".0=1", "0=-1", "0=+1",
          "0-1", "0=01", "..=1"),
}


def kind_of(words, place):
    return KINDS[words[0]][place]


class Good(unittest.TestCase):
    def test_all_commands(self):
        self.assertEqual({line.split(" ")[0] for line in GOOD}, set(KINDS))
        for line, said in {**GOOD, **LET}.items():
            with self.subTest(line=line):
                self.assertEqual(read_command(line), said)
                self.assertIsInstance(read_command(line), tuple)

    def test_the_empty_line(self):
        self.assertEqual(read_command(""), ())
        for line in (" ", "  ", "   "):
            self.assertIsNone(read_command(line))

    def test_all_numbers(self):
        for number in range(1000):
            self.assertEqual(read_command(f"learn a {number} b"), ("learn", "a", number, "b"))
        for number in (1000, 1001, 9999, 10000):
            self.assertIsNone(read_command(f"learn a {number} b"))

    def test_all_small_letters(self):
        for letter in "abcdefghijklmnopqrstuvwxyz":
            self.assertEqual(read_command("show " + letter), ("show", letter))
            self.assertIsNone(read_command("show " + letter.upper()))
        for sign in map(chr, range(32, 127)):
            if not sign.islower():
                self.assertIsNone(read_command("show a" + sign))
                self.assertIsNone(read_command("let a" + sign + " x") if sign != " " else None)

    def test_commands_as_names(self):
        for name in KINDS:
            self.assertEqual(read_command(f"show {name}"), ("show", name))

    def test_long_words(self):
        self.assertEqual(read_command("run a " + "0" * 1990), ("run", "a", [0] * 1990))
        self.assertEqual(read_command("blind a" + " 1" * 900), ("blind", "a", [[1]] * 900))

    def test_the_returned_lists_may_be_changed(self):
        read_command("blind a 0 1")[2].append([5])
        self.assertEqual(read_command("blind a 0 1"), ("blind", "a", [[0], [1]]))


class OneChange(unittest.TestCase):
    def refuse(self, line):
        with self.subTest(line=line):
            self.assertIsNone(read_command(line))

    def test_spaces(self):
        for line in GOOD:
            self.refuse(" " + line)
            self.refuse(line + " ")
            for place, sign in enumerate(line):
                if sign == " ":
                    self.refuse(line[:place] + " " + line[place:])
        for line in LET:
            self.refuse(" " + line)
            self.refuse("let " + line[3:])

    def test_a_word_more_or_less(self):
        for line in GOOD:
            words = line.split(" ")
            kinds = KINDS[words[0]]
            if len(kinds) < 9:
                self.refuse(line + " a")
                self.refuse(line + " 0")
            for place in range(len(words)):
                if place == 0 or kind_of(words, place) not in "wp" or words[0] == "run":
                    self.refuse(" ".join(words[:place] + words[place + 1:]))
        for line in ("let", "let ", "let a", "let  a", "let a1 x", "let A x", "let abcdefg x", "let . x"):
            self.refuse(line)

    def test_wrong_words(self):
        for line in GOOD:
            words = line.split(" ")
            for place in range(len(words)):
                for wrong in WRONG[kind_of(words, place)]:
                    self.refuse(" ".join(words[:place] + [wrong] + words[place + 1:]))

    def test_words_of_other_kinds(self):
        # A name, a number, a word of letters and a pair do not stand for each other.
        samples = {"n": ("a", "abc"), "k": ("7", "10"), "w": (".", "01"), "p": (".=1", "01=1")}
        for line in GOOD:
            words = line.split(" ")
            for place in range(1, len(words)):
                for kind, texts in samples.items():
                    for text in texts:
                        own = kind_of(words, place)
                        fits = kind == own or {own, kind} == {"k", "w"} and text in ("7", "10")
                        if not fits:
                            self.refuse(" ".join(words[:place] + [text] + words[place + 1:]))

    def test_other_commands(self):
        for line, kind in itertools.product(GOOD, KINDS):
            words = line.split(" ")
            other = " ".join([kind] + words[1:])
            if [KINDS[words[0]][:len(words)]] != [KINDS[kind][:len(words)]] and other not in GOOD:
                if kind not in ("blind", "fit", "run") and words[0] not in ("blind", "fit", "run"):
                    self.refuse(other)


if __name__ == "__main__":
    unittest.main()
