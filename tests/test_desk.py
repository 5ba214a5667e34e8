"""[9.1], [9.2]: scripts."""

import unittest

from maieutic.beside import beside
from maieutic.desk import DoubtfulBox, run_script
from maieutic.differ import first_difference, parting_word
from maieutic.doubt import DoubtAsker
from maieutic.errors import Alike, NotAllowed
from maieutic.honest import MAX_STEPS, Honest
from maieutic.least import least
from maieutic.notation import machine_text
from maieutic.suite import suite_words
from tests.helper import EVEN, all_machines, chain, image_digits, plain_along, random_machine, ring, shortest_difference
from tests.helper import source

TEXT = "2 2: 1 0 1; 0 1 0"
OTHER = (2, 2, ((0, 1), (1, 1)), (1, 0))
ONE = (2, 2, ((0, 0),), (1,))
# A machine with two states that are alike and one that is not reached.
LOOSE = (2, 2, ((1, 2), (0, 2), (2, 0), (3, 3)), (1, 1, 0, 0))


def run(*lines):
    return run_script("\n".join(lines))


def let(name, machine):
    return f"let {name} {machine_text(machine)}"


def digits_of(word):
    return image_digits(word)


class Scripts(unittest.TestCase):
    def test_the_empty_script_and_empty_lines(self):
        self.assertEqual(run_script(""), [""])
        self.assertEqual(run_script("\n"), ["", ""])
        self.assertEqual(run("", let("a", EVEN), "", "show a", ""), ["", "ok", "", TEXT, ""])
        self.assertEqual(run_script(" "), ["bad"])

    def test_numbers_of_lines(self):
        self.assertEqual(run_script("\n" * 39), [""] * 40)
        self.assertEqual(run(*["show a"] * 40), ["none"] * 40)
        self.assertRaises(NotAllowed, run_script, "\n" * 40)
        self.assertRaises(NotAllowed, run_script, "\n".join(["show a"] * 41))

    def test_numbers_of_characters(self):
        self.assertEqual(run_script("x" * 2000), ["bad"])
        self.assertRaises(NotAllowed, run_script, "x" * 2001)
        line = let("a", EVEN) + "\n"
        script = line + "run a " + "1" * (2000 - 6 - len(line))
        self.assertEqual(run_script(script), ["ok", "refused"])
        self.assertRaises(NotAllowed, run_script, script + "1")
        # The newlines count, too.
        script = "x" * 1990 + "\n" * 10
        self.assertEqual(run_script(script), ["bad"] + [""] * 10)
        self.assertRaises(NotAllowed, run_script, script + "\n")

    def test_two_scripts_one_after_another(self):
        self.assertEqual(run(let("a", EVEN), "show a"), ["ok", TEXT])
        self.assertEqual(run("show a"), ["none"])
        self.assertEqual(run(let("b", EVEN), "show a", "show b"), ["ok", "none", TEXT])

    def test_the_returned_list_may_be_changed(self):
        run_script("").append("x")
        self.assertEqual(run_script(""), [""])


class Names(unittest.TestCase):
    def test_a_name_that_is_set_anew(self):
        self.assertEqual(run(let("a", EVEN), let("a", ONE), "show a"), ["ok", "ok", machine_text(ONE)])

    def test_a_name_that_is_read_and_set_in_one_line(self):
        self.assertEqual(run(let("a", LOOSE), "least a a", "show a"), ["ok", "ok", machine_text(least(LOOSE))])
        one = (1, 2, ((1,), (0,)), (1, 0))
        both = beside(one, one)
        self.assertEqual(run(let("a", one), "beside a a a", "show a"), ["ok", "ok", machine_text(both)])
        self.assertEqual(run(let("a", LOOSE), "learn a 7 a", "show a"), ["ok", "ok", machine_text(least(LOOSE))])
        self.assertEqual(run(let("a", LOOSE), "doubt a 2 a", "show a"), ["ok", "ok", machine_text(least(LOOSE))])

    def test_other_names_stay(self):
        lines = (let("a", LOOSE), "least a b", let("a", ONE), "show b", "show a")
        self.assertEqual(run(*lines)[3:], [machine_text(least(LOOSE)), machine_text(ONE)])

    def test_long_names(self):
        self.assertEqual(run(let("abcdef", EVEN), "show abcdef", "show abcdefg", "show abcde"), ["ok", TEXT, "bad", "none"])

    def test_names_that_are_not_there(self):
        lines = ("show x", "least x b", "run x 0", "differ x a", "differ a x", "beside x a b", "beside a x b", "learn x 0 b",
                 "doubt x 0 b", "apart x 0 1", "kills x a 0", "kills a x 0", "blind x", "show b")
        self.assertEqual(run(let("a", EVEN), *lines), ["ok"] + ["none"] * len(lines))

    def test_none_comes_before_the_errors_and_bad_before_none(self):
        lines = ("run x 99", "differ a x", "doubt x 9 b", "apart x 7 7", "kills x a 999", "kills a x 999", "blind x 9",
                 "beside a x b")
        self.assertEqual(run(let("a", EVEN), *lines), ["ok"] + ["none"] * len(lines))
        lines = ("run x 0.", "differ x  a", "doubt x 1000 b", "apart x 01 1", "kills x a", "blind x ", "show x y", "let x")
        self.assertEqual(run(*lines), ["bad"] * len(lines))

    def test_an_error_changes_nothing(self):
        three = (3, 2, ((0, 0, 0),), (0,))
        lines = (let("a", three), let("c", ONE), "let c 1 1:0 0", "beside a a c", "learn x 0 c", "doubt a 9 c", "doubt a 999 c",
                 "show c", "beside a a d", "show d")
        self.assertEqual(run(*lines)[2:], ["form", "refused", "none", "refused", "refused", machine_text(ONE), "refused", "none"])


class Keeping(unittest.TestCase):
    def test_let(self):
        self.assertEqual(run("let a " + TEXT, "show a"), ["ok", TEXT])
        lines = ("let a ", "let a  ", "let a  " + TEXT, "let a " + TEXT + " ", "let a 2 2: 1 0 1; 0 1 2", "let a 0 2: 1",
                 "let a 1 1:0 0", "let a x", "show a")
        self.assertEqual(run(*lines), ["form"] * 8 + ["none"])
        self.assertEqual(run("let", "let a", "let A " + TEXT, "let  a " + TEXT), ["bad"] * 4)

    def test_show(self):
        numbers = source("show")
        for letters, outs, states in ((1, 1, 1), (1, 6, 30), (4, 6, 5), (2, 3, 12)):
            machine = random_machine(numbers, letters, outs, states)
            self.assertEqual(run(let("a", machine), "show a"), ["ok", machine_text(machine)])

    def test_least(self):
        numbers = source("desk least")
        for states in (1, 4, 9, 30):
            machine = random_machine(numbers, 2, 2, states)
            self.assertEqual(run(let("a", machine), "least a b", "show b"), ["ok", "ok", machine_text(least(machine))])
        self.assertEqual(run(let("a", LOOSE), "least a b", "show a"), ["ok", "ok", machine_text(LOOSE)])

    def test_beside(self):
        first, second = (1, 2, ((1,), (0,)), (0, 1)), (1, 2, ((1,), (1,)), (0, 1))
        self.assertEqual(run(let("a", first), let("b", second), "beside a b c", "show c")[2:],
                         ["ok", machine_text(beside(first, second))])
        self.assertEqual(run(let("a", first), let("b", second), "beside b a c", "show c")[2:],
                         ["ok", machine_text(beside(second, first))])
        three = (3, 2, ((0, 0, 0),), (0,))
        six = (1, 6, ((0,),), (5,))
        long = (1, 2, ring(1, 16)[2], ring(1, 16)[3])
        lines = (let("a", three), let("b", EVEN), let("c", six), let("d", first), let("e", long),
                 "beside a b x", "beside c d x", "beside e d x", "beside a d x", "show x")
        self.assertEqual(run(*lines)[5:8], ["refused"] * 3)
        self.assertEqual(run(*lines)[8:], ["ok", machine_text(beside(three, first))])


class Words(unittest.TestCase):
    def test_run(self):
        lines = ("run a .", "run a 1", "run a 0110", "run a 0", "run a 011", "run a " + "1" * 400, "run a " + "1" * 401,
                 "run a 2", "run a 019")
        self.assertEqual(run(let("a", EVEN), *lines)[1:], ["1", "0", "1", "1", "1", "1", "refused", "refused", "refused"])
        self.assertEqual(run(let("a", (1, 6, ((0,),), (5,))), "run a 00"), ["ok", "5"])

    def test_differ(self):
        numbers = source("desk differ")
        for _ in range(20):
            first, second = random_machine(numbers, 2, 2, 4), random_machine(numbers, 2, 2, 3)
            try:
                word = digits_of(first_difference(first, second))
            except Alike:
                word = "alike"
            self.assertEqual(run(let("a", first), let("b", second), "differ a b"), ["ok", "ok", word])
        self.assertEqual(run(let("a", EVEN), let("b", OTHER), let("c", (2, 2, EVEN[2], (0, 1))), "differ a b", "differ a c",
                             "differ a a")[3:], ["11", ".", "alike"])
        self.assertEqual(run(let("a", EVEN), let("b", (2, 3) + EVEN[2:]), let("c", chain(1, 2)), "differ a b",
                             "differ a c")[3:], ["refused", "refused"])

    def test_apart(self):
        machine = ring(2, 5)
        for one in range(5):
            for two in range(5):
                word = "alike" if one == two else digits_of(parting_word(machine, one, two))
                self.assertEqual(run(let("a", machine), f"apart a {one} {two}"), ["ok", word])
        self.assertEqual(run(let("a", LOOSE), "apart a 0 1", "apart a 0 2", "apart a 0 4", "apart a 4 0", "apart a 4 4",
                             "apart a 999 1")[1:], ["alike", ".", "refused", "refused", "refused", "refused"])


class Playing(unittest.TestCase):
    def test_learn(self):
        numbers = source("desk learn")
        for letters, outs, states in ((1, 1, 1), (1, 2, 6), (2, 2, 9), (2, 6, 20), (4, 2, 12), (3, 2, 30)):
            machine = random_machine(numbers, letters, outs, states)
            for pick in (0, 1, 59, 999):
                lines = (let("a", machine), f"learn a {pick} b", "show b", "differ a b")
                self.assertEqual(run(*lines), ["ok", "ok", machine_text(least(machine)), "alike"])

    def test_doubt(self):
        numbers = source("desk doubt")
        for letters, outs, states in ((1, 2, 6), (2, 2, 9), (2, 6, 15), (4, 3, 8)):
            machine = random_machine(numbers, letters, outs, states)
            for wrong in (0, 1, 7, 8):
                lines = (let("a", machine), f"doubt a {wrong} b", "show b", "differ a b")
                self.assertEqual(run(*lines), ["ok", "ok", machine_text(least(machine)), "alike"])

    def test_doubt_that_is_refused(self):
        for wrong in (9, 10, 999):
            self.assertEqual(run(let("a", EVEN), f"doubt a {wrong} b", "show b"), ["ok", "refused", "none"])
        one_output = (2, 1, ((0, 0),), (0,))
        for wrong in (1, 8, 9):
            self.assertEqual(run(let("a", one_output), f"doubt a {wrong} b", "show b"), ["ok", "refused", "none"])
        self.assertEqual(run(let("a", one_output), "doubt a 0 b", "show b"), ["ok", "ok", machine_text(one_output)])
        # One of two outputs alone is told here, but there are two.
        self.assertEqual(run(let("a", ONE), "doubt a 8 b", "show b"), ["ok", "ok", machine_text(ONE)])

    def test_the_box_that_is_doubted(self):
        machine = (1, 3, ((1,), (2,), (0,)), (0, 1, 2))
        for wrong in range(9):
            box = DoubtfulBox(machine, wrong)
            for count in range(12):
                right = count % 3
                self.assertEqual(box.reply([0] * count), (right + 1) % 3 if count < wrong else right)
            self.assertIsNone(box.judge(machine))
            self.assertEqual(box.judge((1, 3, ((0,),), (0,))), [0])

    def test_more_replies_than_one_play_allows(self):
        for machine in (chain(4, 30), ring(4, 30)):
            asker, box, replies = DoubtAsker(4, 2, 30, 8), Honest(machine, []), 0
            while asker.step()[0] in ("ask", "propose"):
                replies += 1
                step = asker.step()
                if step[0] == "ask":
                    asker.answer(box.reply(step[1]))
                elif shortest_difference(step[1], machine) is None:
                    asker.accept()
                else:
                    asker.show(box.judge(step[1]))
            self.assertGreater(replies, MAX_STEPS)
            lines = (let("a", machine), "doubt a 8 b", "differ a b", "least a c", "show c")
            self.assertEqual(run(*lines), ["ok", "ok", "alike", "ok", machine_text(least(machine))])


class Suites(unittest.TestCase):
    def expected(self, first, second, extra):
        try:
            words = suite_words(first, extra)
        except NotAllowed:
            return "refused"
        if first[:2] != second[:2]:
            return "refused"
        if len(least(second)[2]) > len(least(first)[2]) + extra:
            return "far"
        return "yes" if any(plain_along(first, word) != plain_along(second, word) for word in words) else "no"

    def test_kills(self):
        some = list(all_machines(2, 2, 2))[::7] + [OTHER, LOOSE, ring(2, 3), chain(2, 5), (2, 3) + EVEN[2:], chain(1, 3)]
        seen = set()
        for first in (EVEN, OTHER, ONE, LOOSE, chain(2, 3)):
            for second in some:
                for extra in (0, 1, 2, 29, 30):
                    answer = self.expected(first, second, extra)
                    seen.add(answer)
                    self.assertEqual(run(let("a", first), let("b", second), f"kills a b {extra}"), ["ok", "ok", answer])
        self.assertEqual(seen, {"refused", "far", "yes", "no"})

    def test_which_comes_first(self):
        lines = (let("a", ONE), let("b", ring(2, 3)), let("c", EVEN), let("d", chain(1, 9)), let("e", (2, 3) + ring(2, 3)[2:]))
        # The numbers of states of the least machines: 1, 3, 2, 9, 3.
        self.assertEqual(run(*lines, "kills a b 0", "kills a b 1", "kills a b 2", "kills a c 0", "kills a c 1")[5:],
                         ["far", "far", "yes", "far", "yes"])
        # Too large a suite, or other letters or outs, come before `far`.
        self.assertEqual(run(*lines, "kills a b 30", "kills a d 0", "kills a e 0", "kills a d 999", "kills c c 0",
                             "kills c c 29")[5:], ["refused"] * 4 + ["no", "refused"])

    def test_blind(self):
        lines = ("blind a 010", "blind a 0101", "blind a", "blind a .", "blind a 2", "blind a 0101 2", "blind a 0 1",
                 "blind a 11 00 10", "blind a 00 10 11", "blind a " + "0" * 401, "blind a 10 0")
        self.assertEqual(run(let("a", EVEN), *lines)[1:], ["other", "missing", "other", "other", "refused", "refused", "other",
                                                           "missing", "missing", "refused", "other"])
        self.assertEqual(run(let("a", ONE), "blind a", "blind a 0", "blind a 9")[1:], ["missing", "missing", "refused"])

    def test_fit(self):
        lines = ("fit 1 2 .=1 0=0 00=1", "fit 1 2 .=1 0=0", "fit 2 2 0=1 1=0", "fit 1 1", "fit 2 6", "fit 2 6 01=5")
        self.assertEqual(run(*lines), ["1 2: 1 1; 0 0", "1 2: 1 1; 0 0", "2 2: 0 1 0; 1 0 0", "1 1: 0 0", "2 6: 0 0 0",
                                       "2 6: 5 0 0"])

    def test_fit_errors(self):
        refused = ("fit 0 2", "fit 3 2", "fit 1 0", "fit 1 7", "fit 1 2 1=0", "fit 1 2 0=2", "fit 1 2 .=9",
                   "fit 1 2 00000000000=0", "fit 999 999", "fit 2 2 0=0 0=1 2=0", "fit 1 2" + " 0=0" * 31)
        self.assertEqual(run(*refused), ["refused"] * len(refused))
        self.assertEqual(run("fit 1 2 0=0 0=1", "fit 2 2 .=0 01=1 .=1"), ["broken", "broken"])
        self.assertEqual(run("fit 1 2 .=0 0=0 00=0 000=0 0000=1", "fit 1 6 .=0 0=1 00=2 000=3 0000=4"), ["missing"] * 2)
        self.assertEqual(run("fit 1 2" + " 0=0" * 30, "fit 1 2 0000000000=1", "fit 1 2 .=0 0=0 00=0 000=1"),
                         ["1 2: 0 0", "1 2: 1 0", "1 2: 0 1; 0 2; 0 3; 1 0"])
        self.assertEqual(run("fit 1", "fit 1 2 0", "fit 1 2 0=12", "fit 1 2  ", "fit"), ["bad"] * 5)


if __name__ == "__main__":
    unittest.main()
