"""[2.14]: finding a change by halving."""

import unittest

from maieutic.errors import NotAllowed, Wrong
from maieutic.halving import Halving


class FindTheChange(unittest.TestCase):
    def search(self, length, differs):
        """Find a change in a list of True and False; check each place by the words of the document."""
        halving = Halving(length)
        low, high = 0, length
        looks = 0
        while high - low > 1:
            middle = (low + high) // 2
            self.assertEqual(halving.place(), middle)
            self.assertEqual(halving.place(), middle)
            self.assertRaises(Wrong, halving.found)
            self.assertEqual(halving.place(), middle)
            self.assertIsNone(halving.tell(differs[middle]))
            low, high = (middle, high) if differs[middle] else (low, middle)
            looks += 1
        self.assertIsNone(halving.place())
        self.assertEqual(halving.found(), low)
        self.assertRaises(Wrong, halving.tell, True)
        self.assertRaises(Wrong, halving.tell, False)
        self.assertIsNone(halving.place())
        self.assertEqual(halving.found(), low)
        self.assertLessEqual(looks, length.bit_length())
        return low

    def test_length_1(self):
        halving = Halving(1)
        self.assertIsNone(halving.place())
        self.assertEqual(halving.found(), 0)
        self.assertRaises(Wrong, halving.tell, True)
        self.assertEqual(halving.found(), 0)

    def test_each_place_of_the_change(self):
        for length in list(range(1, 20)) + [31, 32, 33, 300]:
            for change in range(length):
                differs = [place <= change for place in range(length + 1)]
                self.assertEqual(self.search(length, differs), change)

    def test_several_changes(self):
        for length in range(1, 10):
            for bits in range(2 ** (length - 1)):
                differs = [True] + [bool(bits >> place & 1) for place in range(length - 1)] + [False]
                found = self.search(length, differs)
                self.assertTrue(differs[found])
                self.assertFalse(differs[found + 1])

    def test_length_below_1(self):
        for length in (0, -1, -7):
            self.assertRaises(NotAllowed, Halving, length)

    def test_two_objects_in_turn(self):
        one, two = Halving(8), Halving(5)
        self.assertEqual((one.place(), two.place()), (4, 2))
        one.tell(True)
        self.assertEqual((one.place(), two.place()), (6, 2))
        two.tell(False)
        self.assertEqual((one.place(), two.place()), (6, 1))
        one.tell(False)
        two.tell(True)
        self.assertEqual((one.place(), two.place()), (5, None))
        self.assertRaises(Wrong, one.found)
        self.assertEqual(two.found(), 1)
        one.tell(True)
        self.assertEqual((one.found(), two.found()), (5, 1))


if __name__ == "__main__":
    unittest.main()
