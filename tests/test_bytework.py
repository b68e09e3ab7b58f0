"""Points 2 to 4: discwright/bytework.py."""

import random
import unittest

from discwright.bytework import bits_byte, byte_bits, crc, exclusive, parity, total, two_bytes
from discwright.errors import DifferentLengths, DiscError
from tests.models import model_crc


def with_bits(values, places):
    """The list with the bits at these places changed, counted from the highest bit of the first byte on."""
    changed = list(values)
    for place in places:
        changed[place // 8] = changed[place // 8] ^ (128 >> place % 8)
    return changed


class BitsTest(unittest.TestCase):

    def test_the_highest_bit_comes_first(self):
        self.assertEqual(byte_bits(128), [1, 0, 0, 0, 0, 0, 0, 0])
        self.assertEqual(byte_bits(1), [0, 0, 0, 0, 0, 0, 0, 1])
        self.assertEqual(bits_byte([1, 1, 0, 0, 0, 0, 1, 0]), 194)

    def test_all_bytes(self):
        for value in range(256):
            bits = [int(digit) for digit in format(value, "08b")]
            self.assertEqual(byte_bits(value), bits)
            self.assertEqual(bits_byte(bits), value)

    def test_the_bits_are_not_changed(self):
        bits = [1, 0, 1, 0, 1, 0, 1, 1]
        bits_byte(bits)
        self.assertEqual(bits, [1, 0, 1, 0, 1, 0, 1, 1])

    def test_returned_bits_are_a_new_list(self):
        byte_bits(5).append(9)
        self.assertEqual(byte_bits(5), [0, 0, 0, 0, 0, 1, 0, 1])

    def test_exclusive(self):
        self.assertEqual([exclusive(0, 0), exclusive(65535, 0), exclusive(65535, 65535)], [0, 65535, 0])
        self.assertEqual(exclusive(12, 10), 6)
        self.assertEqual(exclusive(43690, 21845), 65535)
        self.assertEqual(exclusive(4129, 33), 4096)

    def test_two_bytes(self):
        self.assertEqual([two_bytes(0), two_bytes(255), two_bytes(256)], [[0, 0], [0, 255], [1, 0]])
        self.assertEqual([two_bytes(258), two_bytes(65535)], [[1, 2], [255, 255]])


class CrcTest(unittest.TestCase):

    def test_known_lists(self):
        self.assertEqual(crc([]), 65535)
        self.assertEqual(crc([49, 50, 51]), 23502)
        self.assertEqual(crc([ord(digit) for digit in "123456789"]), 10673)
        self.assertEqual(crc([161, 161, 161]), 52660)

    def test_each_byte(self):
        for value in range(256):
            self.assertEqual(crc([value]), model_crc([value]), value)

    def test_equal_bytes(self):
        for value in (0, 1, 78, 128, 255):
            for count in range(1, 40):
                self.assertEqual(crc([value] * count), model_crc([value] * count), (value, count))

    def test_lists_bit_by_bit(self):
        source = random.Random(3)
        for count in list(range(2, 60)) + [1000, 4000]:
            values = [source.randrange(256) for _ in range(count)]
            self.assertEqual(crc(values), model_crc(values), count)

    def test_the_list_is_not_changed(self):
        values = [1, 2, 3]
        crc(values)
        self.assertEqual(values, [1, 2, 3])

    def test_one_bit_is_seen(self):
        for values in ([0] * 20, [255] * 20, list(range(20))):
            seen = {crc(values)}
            for place in range(160):
                seen.add(crc(with_bits(values, [place])))
            self.assertEqual(len(seen), 161)

    def test_two_and_three_bits_near_each_other_are_seen(self):
        values = [(7 * at) % 256 for at in range(5)]
        right = crc(values)
        for first in range(40):
            for second in range(first + 1, 40):
                self.assertNotEqual(crc(with_bits(values, [first, second])), right)
                for third in range(second + 1, 40, 3):
                    self.assertNotEqual(crc(with_bits(values, [first, second, third])), right)

    def test_bits_far_from_each_other_are_seen(self):
        source = random.Random(4)
        values = [source.randrange(256) for _ in range(4000)]
        right = crc(values)
        groups = [[0], [31999], [0, 31999], [0, 1, 31999], [0, 16000, 31999], [0, 16], [31984, 31999]]
        groups += [source.sample(range(32000), 1 + at % 3) for at in range(40)]
        for places in groups:
            self.assertNotEqual(crc(with_bits(values, places)), right, places)


class SumsTest(unittest.TestCase):

    def test_total(self):
        self.assertEqual([total([]), total([7]), total([255, 255, 2])], [0, 7, 512])

    def test_total_is_taken_modulo_65536(self):
        self.assertEqual(total([255] * 257), 65535)
        self.assertEqual(total([255] * 257 + [1]), 0)
        self.assertEqual(total([255] * 600), 600 * 255 - 2 * 65536)

    def test_parity(self):
        self.assertEqual(parity([[1, 255], [3, 15]]), [2, 240])
        self.assertEqual(parity([[5, 6, 7]]), [5, 6, 7])
        self.assertEqual(parity([[1, 2, 4], [8, 16, 32], [64, 128, 255]]), [73, 146, 219])
        self.assertEqual(parity([[9, 9], [9, 9], [1, 2], [1, 2]]), [0, 0])

    def test_parity_of_empty_lists(self):
        self.assertEqual([parity([[]]), parity([[], []])], [[], []])

    def test_parity_of_a_list_with_itself(self):
        values = list(range(256))
        self.assertEqual(parity([values, values]), [0] * 256)
        self.assertEqual(parity([values, [255] * 256]), list(range(255, -1, -1)))

    def test_parity_changes_nothing_and_returns_a_new_list(self):
        one = [1, 2]
        lists = [one, [3, 4]]
        parity(lists).append(9)
        self.assertEqual(lists, [[1, 2], [3, 4]])
        alone = parity([one])
        alone[0] = 77
        self.assertEqual(one, [1, 2])

    def test_different_lengths(self):
        for lists in ([], [[1], []], [[], [1]], [[1, 2], [1, 2], [1]], [[1, 2], [1, 2], [1, 2, 3]], [[1], [1, 2]]):
            with self.assertRaises(DiscError) as caught:
                parity(lists)
            self.assertIs(type(caught.exception), DifferentLengths)

    def test_total_changes_nothing(self):
        values = [200, 100]
        total(values)
        self.assertEqual(values, [200, 100])


if __name__ == "__main__":
    unittest.main()
