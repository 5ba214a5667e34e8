"""[4.1] to [4.3]: a box that has not made up its mind."""

import itertools
import unittest

from maieutic.errors import Missing, NotAllowed
from maieutic.machines import check_machine
from maieutic.secret import Secret
from tests import helper


class Plain:
    """The same box, with a plain list of the possible words."""

    def __init__(self, letters, length):
        self.words = [list(word) for word in itertools.product(range(letters), repeat=length)]
        self.replies = []

    def reply(self, word):
        output = int(self.words == [word])
        if word in self.words and not output:
            self.words = [other for other in self.words if other != word]
        self.replies.append((list(word), output))
        return output


class Boxes(unittest.TestCase):
    def check(self, box, plain, letters):
        """Hold everything that a box shows against the plain one."""
        self.assertEqual(box.left(), len(plain.words))
        self.assertEqual(box.possible(), plain.words)
        if len(plain.words) == 1:
            self.assertRaises(Missing, box.pair)
        else:
            self.check_pair(box, plain, letters)

    def check_pair(self, box, plain, letters):
        pair = box.pair()
        self.assertIsInstance(pair, tuple)
        self.assertEqual(len(pair), 2)
        longest = len(plain.words[0]) + 1
        for machine, owned in zip(pair, (plain.words[0], plain.words[-1])):
            check_machine(machine)
            self.assertEqual(machine[:2], (letters, 2))
            self.assertTrue(helper.is_least(machine))
            for word, output in plain.replies:
                if all(0 <= letter < letters for letter in word):
                    self.assertEqual(helper.plain_output(machine, word), output)
            if letters ** longest <= 1024:
                ones = [word for word in helper.words_up_to(letters, longest) if helper.plain_output(machine, word)]
                self.assertEqual(ones, [owned])
            self.assertEqual(helper.plain_output(machine, owned), 1)
        self.assertIsNotNone(helper.shortest_difference(*pair))

    def ask(self, box, plain, word):
        given = list(word)
        self.assertEqual(box.reply(given), plain.reply(word))
        self.assertEqual(given, word)

    def test_numbers_that_are_allowed(self):
        for letters, length in itertools.product((2, 3, 4), (1, 2, 3, 4, 5)):
            self.assertEqual(Secret(letters, length).left(), letters ** length)

    def test_numbers_that_are_not_allowed(self):
        for letters, length in itertools.product((-1, 0, 1, 2, 4, 5, 6), (-1, 0, 1, 5, 6, 7)):
            if not (2 <= letters <= 4 and 1 <= length <= 5):
                self.assertRaises(NotAllowed, Secret, letters, length)

    def test_all_words_in_some_order(self):
        """All words are asked; the last one is owned, and stays so."""
        numbers = helper.source(1)
        for letters, length in ((2, 1), (4, 1), (2, 2), (3, 2), (2, 3), (2, 4), (2, 5), (3, 3)):
            box, plain = Secret(letters, length), Plain(letters, length)
            self.check(box, plain, letters)
            order = list(plain.words)
            numbers.shuffle(order)
            for word in order:
                self.ask(box, plain, word)
                self.check(box, plain, letters)
            self.assertEqual(plain.replies[-1], (order[-1], 1))
            self.assertEqual(box.left(), 1)
            for word in order + order[::-1]:
                self.assertEqual(box.reply(word), int(word == order[-1]))
                self.check(box, plain, letters)

    def test_great_boxes(self):
        numbers = helper.source(2)
        box, plain = Secret(4, 5), Plain(4, 5)
        order = list(plain.words)
        numbers.shuffle(order)
        for place, word in enumerate(order):
            self.ask(box, plain, word)
            if place & 255 == 0 or place > 1015:
                self.check(box, plain, 4)
        self.assertEqual(box.possible(), [order[-1]])

    def test_words_of_all_kinds(self):
        """Words of the length, shorter and longer ones, and words with other letters, some of them twice."""
        numbers = helper.source(3)
        for letters, length in ((2, 1), (2, 3), (3, 2), (4, 2), (2, 5)):
            box, plain = Secret(letters, length), Plain(letters, length)
            for _ in range(80):
                size = length if numbers.randrange(4) else numbers.randrange(length + 3)
                word = [numbers.randrange(letters) for _ in range(size)]
                if word and numbers.randrange(5) == 0:
                    word[numbers.randrange(size)] = numbers.choice((-1, letters, 9))
                self.ask(box, plain, word)
                self.check(box, plain, letters)

    def test_words_that_change_nothing(self):
        box = Secret(2, 2)
        for word in ([], [0], [1], [0, 0, 0], [2, 0], [0, -1], [0, 2], [5, 5], [0] * 500):
            self.assertEqual(box.reply(word), 0)
        self.assertEqual(box.possible(), [[0, 0], [0, 1], [1, 0], [1, 1]])

    def test_such_words_when_one_word_is_left(self):
        box = Secret(2, 1)
        self.assertEqual(box.reply([0]), 0)
        for word in ([], [0], [2], [1, 1], [-1]):
            self.assertEqual(box.reply(word), 0)
        self.assertEqual(box.reply([1]), 1)
        self.assertEqual(box.reply([1]), 1)
        self.assertEqual(box.left(), 1)

    def test_a_word_that_is_asked_twice(self):
        box = Secret(2, 2)
        for _ in range(2):
            self.assertEqual(box.reply([1, 0]), 0)
            self.assertEqual(box.left(), 3)

    def test_the_first_and_the_last_word(self):
        box = Secret(2, 2)
        for word in ([0, 0], [1, 1]):
            box.reply(word)
        first, last = box.pair()
        self.assertEqual((helper.plain_output(first, [0, 1]), helper.plain_output(first, [1, 0])), (1, 0))
        self.assertEqual((helper.plain_output(last, [0, 1]), helper.plain_output(last, [1, 0])), (0, 1))

    def test_two_boxes_in_turn(self):
        one, two = Secret(2, 2), Secret(2, 2)
        one.reply([0, 0])
        two.reply([1, 1])
        self.assertEqual(one.possible(), [[0, 1], [1, 0], [1, 1]])
        self.assertEqual(two.possible(), [[0, 0], [0, 1], [1, 0]])

    def test_lists_that_are_changed(self):
        box = Secret(2, 2)
        words = box.possible()
        words[0].append(5)
        words.pop()
        word = [0, 1]
        box.reply(word)
        word[0] = 1
        self.assertEqual(box.possible(), [[0, 0], [1, 0], [1, 1]])


class Nobody(unittest.TestCase):
    """[4.3]: two machines fit all that was seen."""

    def test_until_all_words_but_one_were_asked(self):
        for letters, length in ((2, 2), (3, 2), (2, 4)):
            box, plain = Secret(letters, length), Plain(letters, length)
            for word in list(plain.words)[:-2]:
                box.reply(word)
                first, second = box.pair()
                self.assertIsNotNone(helper.shortest_difference(first, second))
            box.reply(plain.words[-2])
            self.assertRaises(Missing, box.pair)


if __name__ == "__main__":
    unittest.main()
