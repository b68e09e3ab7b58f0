"""Point 19: discwright/numbers.py."""

import random
import unittest

from discwright.errors import BadBytes, DiscError
from discwright.numbers import read_number, write_number
from tests.models import model_number


class NumbersTest(unittest.TestCase):

    def refused(self, values, at):
        with self.assertRaises(DiscError) as caught:
            read_number(values, at)
        self.assertIs(type(caught.exception), BadBytes)

    def test_known_numbers(self):
        self.assertEqual([write_number(0), write_number(1), write_number(127)], [[0], [1], [127]])
        self.assertEqual([write_number(128), write_number(129), write_number(200)], [[128, 1], [129, 1], [200, 1]])
        self.assertEqual([write_number(16383), write_number(16384)], [[255, 127], [128, 128, 1]])

    def test_written_and_read(self):
        numbers = list(range(700)) + [128 ** count + more for count in range(2, 14) for more in (-1, 0, 1)]
        for number in numbers + [10 ** 30 - 1, 10 ** 29, 60000, 2000001]:
            values = write_number(number)
            self.assertEqual(values, model_number(number))
            self.assertEqual(read_number(values, 0), (number, len(values)))

    def test_numbers_of_up_to_thirty_digits(self):
        source = random.Random(13)
        for count in range(1, 31):
            number = source.randrange(10 ** (count - 1), 10 ** count)
            self.assertEqual(write_number(number), model_number(number))
            self.assertEqual(read_number(write_number(number) + [5], 0), (number, len(model_number(number))))

    def test_any_index(self):
        values = [7, 128, 1, 0, 255, 255, 3, 9]
        self.assertEqual(read_number(values, 0), (7, 1))
        self.assertEqual(read_number(values, 1), (128, 3))
        self.assertEqual(read_number(values, 2), (1, 3))
        self.assertEqual(read_number(values, 3), (0, 4))
        self.assertEqual(read_number(values, 4), (3 * 16384 + 16383, 7))
        self.assertEqual(read_number(values, 5), (3 * 128 + 127, 7))
        self.assertEqual(read_number(values, 7), (9, 8))

    def test_one_behind_the_other(self):
        numbers = [0, 300, 127, 128, 10 ** 20, 5]
        values = []
        for number in numbers:
            values += write_number(number)
        at = 0
        for number in numbers:
            told, at = read_number(values, at)
            self.assertEqual(told, number)
        self.assertEqual(at, len(values))

    def test_a_pair_is_returned(self):
        self.assertIs(type(read_number([5], 0)), tuple)

    def test_bytes_that_end_too_early(self):
        for values in ([], [128], [255], [200, 129], [128] * 10):
            self.refused(values, 0)
        self.refused([1, 2, 3], 3)
        self.refused([1, 2, 3], 4)
        self.refused([1, 2, 3], 100)
        self.refused([1, 2, 200], 2)

    def test_a_needless_last_digit(self):
        for values in ([128, 0], [255, 0], [129, 0, 1], [128, 128, 0], [255, 255, 255, 0]):
            self.refused(values, 0)
        self.refused([5, 133, 0, 7], 1)

    def test_zeros_that_are_needed(self):
        self.assertEqual(read_number([0, 0], 0), (0, 1))
        self.assertEqual(read_number([5, 0], 1), (0, 2))
        self.assertEqual(read_number([200, 128, 1], 0), (72 + 16384, 3))

    def test_the_list_is_not_changed(self):
        values = [200, 1, 7]
        read_number(values, 0)
        self.assertEqual(values, [200, 1, 7])


if __name__ == "__main__":
    unittest.main()
