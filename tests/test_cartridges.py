"""Points 46 to 49: discwright/cartridges.py."""

import random
import unittest

from discwright.bytework import crc
from discwright.cartridges import Cartridge, Mapper, make_cartridge, merged, trimmed, true_length
from discwright.errors import DiscError, InvalidDump, NoHeader
from tests.models import model_crc


def model_length(dump):
    """Point 46, as it says it."""
    power = 16
    while any(dump[at] != dump[at % power] for at in range(len(dump))):
        power = 2 * power
    if power < len(dump) or len(dump) == 16:
        return power
    half = len(dump) // 2
    second = model_length(dump[half:])
    return half + second if second < half else len(dump)


def some(count, source):
    return [source.randrange(256) for _ in range(count)]


def header(count, kind, check, title):
    """The 16 bytes of a header, whatever they say."""
    return [67, 65, 82, 84, count, kind, check // 256, check % 256] + [ord(character) for character in title]


def cartridge_bytes(kind, title, content):
    """A cartridge whose header is right."""
    return header(len(content) // 64, kind, model_crc(content), title.ljust(8)) + content


class DumpTest(unittest.TestCase):

    def told(self, dump, length):
        self.assertEqual(true_length(dump), length)
        self.assertEqual(trimmed(dump), dump[:length])

    def refused(self, dump):
        for call in (true_length, trimmed):
            with self.assertRaises(DiscError) as caught:
                call(dump)
            self.assertIs(type(caught.exception), InvalidDump)

    def test_content_that_is_not_repeated(self):
        source = random.Random(460)
        for power in range(4, 17):
            dump = some(2 ** power, source)
            self.told(dump, 2 ** power)

    def test_content_that_is_repeated(self):
        source = random.Random(461)
        for power in range(4, 13):
            content = some(2 ** power, source)
            for times in (2, 4, 8, 16):
                self.told(content * times, 2 ** power)

    def test_the_greatest_dumps(self):
        source = random.Random(462)
        for power in range(4, 17):
            self.told(some(2 ** power, source) * 2 ** (16 - power), 2 ** power)
        content = some(32768, source)
        self.told(content + content[:16] * 2048, 32768 + 16)

    def test_content_of_less_than_16_bytes(self):
        for content in ([5], [5, 6], [1, 2, 3, 4], list(range(8))):
            for length in (16, 32, 64, 1024, 65536):
                self.told(content * (length // len(content)), 16)

    def test_a_dump_of_16_bytes(self):
        self.told(list(range(16)), 16)
        self.told([0] * 16, 16)
        self.told([0] * 8 + [1] * 8, 16)

    def test_repetitions_that_are_no_power_of_2(self):
        """Content of 48 bytes is not repeated a whole number of times in a power of 2."""
        content = list(range(48))
        self.told((content * 3)[:128], 128)
        self.told((content * 2)[:64], 64)

    def test_one_byte_that_breaks_a_repetition(self):
        for power in (5, 6, 8, 10):
            content = list(range(16)) * 2 ** (power - 4)
            for at in (0, 1, 15, 16, 2 ** power // 2 - 1, 2 ** power // 2, 2 ** power - 1):
                dump = content[:at] + [99] + content[at + 1:]
                self.assertEqual(true_length(dump), model_length(dump))
                self.assertGreater(true_length(dump), 16)
        self.told([9] * 31 + [8], 32)
        self.told([8] + [9] * 31, 32)
        self.told([9] * 63 + [8], 64)
        self.told([8] + [9] * 63, 32 + 16)

    def test_a_second_half_that_is_repeated_within(self):
        source = random.Random(463)
        for power in range(6, 12):
            first = some(2 ** power, source)
            for inner in range(4, power):
                second = some(2 ** inner, source) * 2 ** (power - inner)
                self.told(first + second, 2 ** power + 2 ** inner)
            self.told(first + some(2 ** power, source), 2 ** (power + 1))

    def test_a_first_half_that_is_repeated_within(self):
        source = random.Random(464)
        second = some(64, source)
        self.told([3] * 64 + second, 128)
        self.told([3] * 64 + second[:32] * 2, 96)
        self.told([3] * 64 + [4] * 64, 80)

    def test_halves_within_halves(self):
        source = random.Random(465)
        first, second, third = some(128, source), some(64, source), some(32, source)
        self.told(first + second + third[:16] * 4, 128 + 64 + 16)
        self.told(first + second + third * 2, 128 + 64 + 32)
        self.told(first + second + third + third[:16] * 2, 128 + 64 + 32 + 16)
        self.told(first + second + some(64, source), 256)
        self.told(second * 2 + second + third * 2, 128 + 64 + 32)
        self.told(first + second + third + some(32, source), 256)
        self.told(first + second * 2, 128 + 64)

    def test_a_repeated_dump_of_halves(self):
        """The content is trimmed to a power of 2 alone if the whole dump is repeated."""
        content = list(range(32)) + [9] * 32
        self.told(content, 48)
        self.told(content * 2, 64)
        self.told(content * 4, 64)

    def test_halves_of_16_bytes(self):
        self.told(list(range(16)) + [9] * 16, 32)
        self.told([9] * 16 + list(range(16)), 32)

    def test_any_dumps(self):
        source = random.Random(466)
        lengths = {}
        for _ in range(400):
            dump = some(16, source)
            for _ in range(source.randrange(6)):
                kind = source.randrange(3)
                dump = (dump + dump, dump + some(len(dump), source), some(len(dump), source) + dump)[kind]
            lengths[true_length(dump)] = True
            self.told(dump, model_length(dump))
        self.assertGreater(len(lengths), 15)

    def test_lengths(self):
        self.told([1] * 16, 16)
        self.told([1] * 65536, 16)
        for length in (0, 1, 2, 4, 8, 15, 17, 24, 31, 33, 48, 65535, 65537, 131072):
            self.refused([1] * length)
        source = random.Random(467)
        for length in (8, 17, 131072):
            self.refused(some(length, source))

    def test_the_dump_stays(self):
        dump = list(range(16)) * 2
        trimmed(dump).append(5)
        self.assertEqual(dump, list(range(16)) * 2)
        dump = list(range(32))
        trimmed(dump)[0] = 77
        self.assertEqual(dump, list(range(32)))


class HeaderTest(unittest.TestCase):

    def refused(self, values):
        with self.assertRaises(DiscError) as caught:
            Cartridge(values)
        self.assertIs(type(caught.exception), NoHeader)

    def test_the_parts(self):
        source = random.Random(470)
        for count in (1, 2, 3, 63, 64):
            content = some(64 * count, source)
            cartridge = Cartridge(cartridge_bytes(count % 3, "A GAME 1", content))
            self.assertEqual(cartridge.banks, tuple(tuple(content[64 * at:64 * at + 64]) for at in range(count)))
            self.assertEqual([cartridge.kind, cartridge.title], [count % 3, "A GAME 1"])
            self.assertEqual([type(cartridge.banks), type(cartridge.banks[0])], [tuple, tuple])

    def test_titles(self):
        for title in ("", "A", "GAME", "ABCDEFGH", "IJKLMNOP", "QRSTUVWX", "YZ012345", "6789", " GAME", "A B  C", "  1"):
            cartridge = Cartridge(cartridge_bytes(0, title, [7] * 64))
            self.assertEqual(cartridge.title, title)

    def test_spaces_at_the_end_of_a_title(self):
        for title, told in (("A ", "A"), ("        ", ""), (" A      ", " A"), ("A B     ", "A B"), ("12345678", "12345678")):
            self.assertEqual(Cartridge(cartridge_bytes(0, title, [7] * 64)).title, told)

    def test_the_kinds(self):
        content = [7] * 64
        for kind in (0, 1, 2):
            self.assertEqual(Cartridge(cartridge_bytes(kind, "A", content)).kind, kind)
        for kind in (3, 4, 255):
            self.refused(cartridge_bytes(kind, "A", content))

    def test_the_first_bytes(self):
        right = cartridge_bytes(0, "A", [7] * 64)
        Cartridge(right)
        for at in range(4):
            for value in (0, right[at] + 1, right[at] + 32, right[at] - 1):
                self.refused(right[:at] + [value] + right[at + 1:])

    def test_the_number_of_banks(self):
        content = [7] * 64
        for count in (0, 2, 63, 64, 65, 255):
            self.refused(header(count, 0, model_crc(content), "A       ") + content)
        self.refused(header(0, 0, model_crc([]), "A       "))
        self.refused(header(1, 0, model_crc([]), "A       "))
        content = [7] * (64 * 65)
        for count in (0, 1, 64, 65):
            self.refused(header(count, 0, model_crc(content), "A       ") + content)
        content = [7] * (64 * 64)
        self.assertEqual(len(Cartridge(header(64, 0, model_crc(content), "A       ") + content).banks), 64)

    def test_the_number_of_bytes_behind_it(self):
        for length in (0, 1, 63, 65, 127, 129, 192):
            content = [7] * length
            for count in (1, 2, length // 64, length // 64 + 1):
                if 64 * count != length or count == 0:
                    self.refused(header(count, 0, model_crc(content), "A       ") + content)

    def test_too_few_bytes_for_a_header(self):
        right = cartridge_bytes(0, "A", [7] * 64)
        for length in range(16):
            self.refused(right[:length])

    def test_the_crc(self):
        content = list(range(64))
        right = cartridge_bytes(0, "A", content)
        for at in (6, 7):
            for change in (1, 128):
                self.refused(right[:at] + [right[at] ^ change] + right[at + 1:])
        for at in (16, 17, 50, 79):
            for change in (1, 128):
                self.refused(right[:at] + [right[at] ^ change] + right[at + 1:])
        swapped = right[:6] + [right[7], right[6]] + right[8:]
        self.refused(swapped)

    def test_the_characters_of_a_title(self):
        right = cartridge_bytes(0, "ABCDEFGH", [7] * 64)
        allowed = [ord(character) for character in " 0123456789ABCDEFGHIJKLMNOPQRSTUVWXYZ"]
        for at in (8, 11, 15):
            for code in range(256):
                values = right[:at] + [code] + right[at + 1:]
                if code in allowed:
                    title = "".join(chr(value) for value in values[8:16])
                    self.assertEqual(Cartridge(values).title, title.rstrip(" "))
                else:
                    self.refused(values)

    def test_values_that_are_no_bytes(self):
        """With the CRC that the program itself gives for them."""
        for value in (256, 263, -1):
            content = [value] + [7] * 63
            self.refused(header(1, 0, crc(content), "A       ") + content)
            right = cartridge_bytes(0, "A", [7] * 64)
            self.refused(right[:8] + [value] + right[9:])

    def test_the_bytes_stay(self):
        values = cartridge_bytes(0, "A", [7] * 64)
        kept = list(values)
        cartridge = Cartridge(values)
        values[20] = 99
        self.assertEqual(cartridge.banks, ((7,) * 64,))
        values[20] = 7
        self.assertEqual(values, kept)


class MakeTest(unittest.TestCase):

    def refused(self, kind, title, banks):
        with self.assertRaises(DiscError) as caught:
            make_cartridge(kind, title, banks)
        self.assertIs(type(caught.exception), NoHeader)

    def test_byte_by_byte(self):
        source = random.Random(471)
        for kind, title, count in ((0, "", 1), (1, "GAME", 2), (2, "A B 9  Z", 64), (0, "ABCDEFGH", 3), (1, " X", 5)):
            banks = [some(64, source) for _ in range(count)]
            values = make_cartridge(kind, title, banks)
            self.assertEqual(values, cartridge_bytes(kind, title, sum(banks, [])))
            self.assertIs(type(values), list)
            cartridge = Cartridge(values)
            self.assertEqual(cartridge.banks, tuple(tuple(bank) for bank in banks))
            self.assertEqual([cartridge.kind, cartridge.title], [kind, title])

    def test_kinds(self):
        for kind in (-1, 3, 4, 256):
            self.refused(kind, "A", [[7] * 64])

    def test_numbers_of_banks(self):
        self.refused(0, "A", [])
        self.refused(0, "A", [[7] * 64] * 65)
        self.assertEqual(len(make_cartridge(0, "A", [[7] * 64] * 64)), 16 + 4096)

    def test_banks(self):
        for bank in ([], [7], [7] * 63, [7] * 65, [7] * 128, [7] * 63 + [256], [-1] + [7] * 63):
            self.refused(0, "A", [bank])
            self.refused(0, "A", [[7] * 64, bank, [7] * 64])
        self.refused(0, "A", [[7] * 63, [7] * 65])
        make_cartridge(0, "A", [[0] * 64, [255] * 64])

    def test_titles(self):
        for title in ("a", "GAMe", "ABCDEFGHI", "A" * 9, " " * 9, "A-B", "A\n", "A.", "@", "[", "/", ":", "!"):
            self.refused(0, title, [[7] * 64])
        self.assertEqual(make_cartridge(0, " " * 8, [[7] * 64])[8:16], [32] * 8)
        self.assertEqual(make_cartridge(0, "", [[7] * 64])[8:16], [32] * 8)

    def test_the_banks_stay(self):
        banks = [[7] * 64, [8] * 64]
        make_cartridge(0, "A", banks).append(9)
        self.assertEqual(banks, [[7] * 64, [8] * 64])


class MapperTest(unittest.TestCase):

    def cartridge(self, kind, count):
        """A cartridge whose banks have their index and then the numbers of their places."""
        banks = [[bank] + list(range(1, 64)) for bank in range(count)]
        return Cartridge(make_cartridge(kind, "A", banks))

    def shows(self, mapper, lower, upper):
        self.assertEqual([mapper.peek(0), mapper.peek(64)], [lower, upper])
        for at in (1, 30, 63):
            self.assertEqual([mapper.peek(at), mapper.peek(64 + at)], [at, at])

    def test_at_first(self):
        for kind in (0, 1, 2):
            for count in (1, 2, 3, 64):
                self.shows(Mapper(self.cartridge(kind, count)), 0, count - 1)

    def test_each_address(self):
        source = random.Random(480)
        banks = [some(64, source) for _ in range(3)]
        mapper = Mapper(Cartridge(make_cartridge(2, "A", banks)))
        self.assertEqual([mapper.peek(address) for address in range(128)], banks[0] + banks[2])
        mapper.poke(100, 1)
        self.assertEqual([mapper.peek(address) for address in range(128)], banks[0] + banks[1])

    def test_kind_0(self):
        mapper = Mapper(self.cartridge(0, 4))
        for address in (0, 1, 63, 64, 127):
            for value in (0, 1, 2, 3, 4, 255):
                self.assertIs(mapper.poke(address, value), None)
                self.shows(mapper, 0, 3)

    def test_kind_1(self):
        mapper = Mapper(self.cartridge(1, 4))
        for address, value, upper in ((0, 1, 1), (63, 2, 2), (64, 0, 0), (127, 3, 3), (10, 4, 0), (99, 255, 3), (5, 6, 2)):
            self.assertIs(mapper.poke(address, value), None)
            self.shows(mapper, 0, upper)

    def test_kind_2(self):
        mapper = Mapper(self.cartridge(2, 5))
        for address, value, shown in (
            (0, 1, (1, 4)), (63, 2, (2, 4)), (64, 3, (2, 3)), (127, 0, (2, 0)), (1, 5, (0, 0)), (65, 9, (0, 4)),
            (40, 255, (0, 4)), (41, 254, (4, 4)), (126, 251, (4, 1)),
        ):
            self.assertIs(mapper.poke(address, value), None)
            self.shows(mapper, *shown)

    def test_values_beyond_the_number_of_banks(self):
        for count in (1, 2, 3, 7, 63, 64):
            for kind in (1, 2):
                mapper = Mapper(self.cartridge(kind, count))
                for value in (0, count - 1, count, count + 1, 200, 255):
                    mapper.poke(70, value)
                    self.shows(mapper, 0, value % count)

    def test_two_mappers_of_one_cartridge(self):
        cartridge = self.cartridge(2, 4)
        first, second = Mapper(cartridge), Mapper(cartridge)
        first.poke(0, 2)
        second.poke(64, 1)
        self.shows(first, 2, 3)
        self.shows(second, 0, 1)
        self.shows(Mapper(cartridge), 0, 3)


class MergedTest(unittest.TestCase):

    def refused(self, dumps):
        with self.assertRaises(DiscError) as caught:
            merged(dumps)
        self.assertIs(type(caught.exception), InvalidDump)

    def test_one_dump(self):
        self.assertEqual(merged([[1, 2, 3]]), [1, 2, 3])
        self.assertEqual(merged([[0]]), [0])

    def test_two_dumps(self):
        self.assertEqual(merged([[1, 2, 3, 0], [1, 9, 3, 5]]), [1, None, 3, None])

    def test_more_than_any_other(self):
        """The most frequent byte is taken, also if it is not in more than half of the dumps."""
        columns = {(1, 1, 2): 1, (1, 2, 1): 1, (2, 1, 1): 1, (1, 2, 3): None, (0, 0, 0): 0, (1, 1, 2, 2): None,
                   (1, 1, 2, 3): 1, (3, 2, 1, 1): 1, (2, 2, 1, 1, 3): None, (2, 2, 1, 3, 4): 2, (1, 2, 3, 4): None,
                   (1, 2, 2, 2): 2, (5, 5, 4, 4, 4): 4, (0, 0, 255): 0, (255, 0, 255): 255, (1, 1, 2, 2, 3, 3): None}
        for column, told in columns.items():
            self.assertEqual(merged([[value] for value in column]), [told])
        for length in (3, 4, 5):
            rows = [column for column in columns if len(column) == length]
            dumps = [[column[at] for column in rows] for at in range(length)]
            self.assertEqual(merged(dumps), [columns[column] for column in rows])

    def test_a_weak_line(self):
        """If more than half of the dumps are right at each byte, the merged dump is the true one."""
        source = random.Random(490)
        for count in (3, 4, 5, 8, 9):
            true = some(200, source)
            dumps = [list(true) for _ in range(count)]
            for at in range(200):
                for number in source.sample(range(count), (count - 1) // 2):
                    dumps[number][at] = source.choice((true[at] ^ 4, source.randrange(256)))
            self.assertEqual(merged(dumps), true)

    def test_no_dump(self):
        self.refused([])

    def test_different_lengths(self):
        for dumps in ([[1], []], [[], [1]], [[1, 2], [1]], [[1], [1, 2]], [[1, 2], [1, 2], [1, 2, 3]], [[1], [1], []]):
            self.refused(dumps)

    def test_any_lengths(self):
        self.assertEqual(merged([[]]), [])
        self.assertEqual(merged([[], [], []]), [])
        for length in (1, 3, 17, 100):
            self.assertEqual(merged([[5] * length] * 3), [5] * length)

    def test_the_dumps_stay(self):
        dumps = [[1, 2], [1, 3]]
        merged(dumps).append(5)
        one = [[1, 2]]
        merged(one)[0] = 77
        self.assertEqual([dumps, one], [[[1, 2], [1, 3]], [[1, 2]]])


if __name__ == "__main__":
    unittest.main()
