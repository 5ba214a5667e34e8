"""[5.7]: a log that grows."""

import unittest

from maieutic.errors import Broken, Missing, NotAllowed
from maieutic.logbook import Logbook
from maieutic.smallest import is_only, smallest
from tests import helper
from tests.test_smallest import fits_plainly, log_of, random_word


def seen(book):
    return (book.log(), book.machine(), book.is_settled())


def sort_key(pair):
    return (len(pair[0]), pair[0])


class Growing(unittest.TestCase):
    def check(self, book, letters, outs, log):
        self.assertEqual(book.log(), sorted(log, key=sort_key))
        self.assertEqual(book.machine(), smallest(letters, outs, log))
        self.assertIs(book.is_settled(), is_only(letters, outs, log))

    def test_the_empty_log(self):
        for letters, outs in ((1, 1), (2, 1), (1, 6), (2, 6)):
            book = Logbook(letters, outs)
            self.assertEqual(book.log(), [])
            self.assertEqual(book.machine(), (letters, outs, ((0,) * letters,), (0,)))
            self.assertIs(book.is_settled(), outs == 1)

    def test_numbers_out_of_range(self):
        for letters, outs in ((0, 2), (3, 2), (-1, 2), (1, 0), (1, 7), (2, -1), (3, 7)):
            self.assertRaises(NotAllowed, Logbook, letters, outs)

    def test_machines(self):
        numbers = helper.source(1)
        for _ in range(30):
            letters, outs = numbers.randrange(1, 3), numbers.randrange(1, 4)
            machine = helper.random_machine(numbers, letters, outs, numbers.randrange(1, 5))
            book = Logbook(letters, outs)
            log = []
            for _ in range(15):
                word = random_word(numbers, letters, numbers.choice((2, 4, 10)))
                pair = (word, helper.plain_output(machine, word))
                fitted = fits_plainly(book.machine(), [pair])
                before = book.machine()
                self.assertIsNone(book.note(*pair))
                if pair not in log:
                    log.append(pair)
                self.check(book, letters, outs, log)
                if fitted:
                    self.assertEqual(book.machine(), before)
                else:
                    self.assertNotEqual(book.machine(), before)

    def test_all_words_of_a_machine(self):
        for machine in helper.all_machines(1, 2, 3):
            if helper.is_least(machine):
                book = Logbook(1, 2)
                for pair in log_of(machine, helper.words_up_to(1, 5)):
                    book.note(*pair)
                self.assertEqual((book.machine(), book.is_settled()), (machine, True))

    def test_the_order_of_the_pairs(self):
        numbers = helper.source(2)
        for _ in range(20):
            machine = helper.random_machine(numbers, 2, 2, 4)
            log = log_of(machine, [random_word(numbers, 2, 5) for _ in range(10)])
            sights = []
            for _ in range(3):
                numbers.shuffle(log)
                book = Logbook(2, 2)
                for pair in log:
                    book.note(*pair)
                sights.append(seen(book))
            self.assertEqual(sights, sights[:1] * 3)

    def test_pairs_that_are_there(self):
        book = Logbook(1, 2)
        for _ in range(3):
            book.note([0], 1)
        self.assertEqual(book.log(), [([0], 1)])

    def test_thirty_pairs(self):
        book = Logbook(2, 2)
        words = list(helper.words_up_to(2, 4))
        for word in words[:30]:
            book.note(word, 0)
        before = seen(book)
        self.assertIsNone(book.note([], 0))
        self.assertIsNone(book.note(words[29], 0))
        self.assertEqual(seen(book), before)
        for word, output in ((words[30], 0), (words[30], 1), ([0] * 10, 0)):
            self.assertRaises(NotAllowed, book.note, word, output)
        # There are too many pairs then, which comes before the two outputs.
        self.assertRaises(NotAllowed, book.note, [], 1)
        self.assertEqual(seen(book), before)

    def test_two_books_in_turn(self):
        one, two = Logbook(1, 2), Logbook(1, 2)
        one.note([0], 1)
        two.note([0], 0)
        self.assertEqual(one.log(), [([0], 1)])
        self.assertEqual(two.log(), [([0], 0)])


class Errors(unittest.TestCase):
    def check(self, book, error, word, output):
        before = seen(book)
        self.assertRaises(error, book.note, word, output)
        self.assertEqual(seen(book), before)

    def test_words_and_outputs_out_of_range(self):
        book = Logbook(1, 2)
        for noted in ([], [([0], 1)], [([], 0)]):
            for pair in noted:
                book.note(*pair)
            for word, output in (([0] * 11, 0), ([1], 0), ([-1], 0), ([0, 1], 1), ([0, 0], 2), ([0, 0], -1), ([0] * 11, 5)):
                self.check(book, NotAllowed, word, output)
        book.note([0] * 10, 1)
        self.assertEqual(book.log(), [([], 0), ([0], 1), ([0] * 10, 1)])

    def test_two_outputs(self):
        book = Logbook(2, 3)
        book.note([0], 1)
        book.note([1, 1], 2)
        for word, output in (([0], 0), ([0], 2), ([1, 1], 0)):
            self.check(book, Broken, word, output)
        self.check(book, NotAllowed, [0], 3)
        self.check(book, NotAllowed, [0], -1)

    def test_missing(self):
        book = Logbook(1, 6)
        for size in range(4):
            book.note([0] * size, size)
        self.check(book, Missing, [0] * 4, 4)
        book.note([0] * 4, 1)
        self.assertEqual(book.machine(), (1, 6, ((1,), (2,), (3,), (1,)), (0, 1, 2, 3)))

    def test_broken_comes_before_missing(self):
        book = Logbook(1, 6)
        for size in range(4):
            book.note([0] * size, size)
        self.check(book, Broken, [0] * 3, 5)


class Lists(unittest.TestCase):
    def test_lists_that_are_changed(self):
        book = Logbook(2, 2)
        word = [0, 1]
        book.note(word, 1)
        word.append(0)
        log = book.log()
        log[0][0].append(1)
        log.append(([], 0))
        self.assertEqual(book.log(), [([0, 1], 1)])
        self.assertEqual(word, [0, 1, 0])
        book.note([], 0)
        self.assertEqual(book.machine(), smallest(2, 2, [([0, 1], 1), ([], 0)]))


if __name__ == "__main__":
    unittest.main()
