"""Points 35 to 39: discwright/extents.py."""

import random
import unittest

from discwright.blockdiscs import BlockDisc
from discwright.chains import make_chains
from discwright.errors import DiscError, InvalidFiles, NoFileSystem
from discwright.extents import (
    are_extents_sound, bad_entries, bring_back, delete_file, deleted_files, extent_files, make_extents, read_extent,
)
from tests.models import model_crc

SIZES = (32, 64, 128, 256, 512)
FREE = [229] + [0] * 30 + [229]


def two(number):
    return [number // 256, number % 256]


def summed(part):
    """The first 31 bytes of an entry with the right sum."""
    return part[:31] + [sum(part[:31]) % 256]


def entry_of(name, number, length, check, blocks, *, first=1, count=None, summing=1):
    """An entry of 32 bytes; its sum is right for a first byte."""
    codes = [ord(character) for character in name] + [32] * (8 - len(name))
    numbers = [byte for index in blocks for byte in two(index)]
    count = len(blocks) if count is None else count
    part = [summing] + codes + [number] + two(length) + two(check) + [count] + numbers + [0] * (16 - len(numbers))
    return [first] + summed(part)[1:]


def file_entries(name, values, blocks, **more):
    """The entries of a file that has these blocks."""
    parts = [blocks[at:at + 8] for at in range(0, len(blocks), 8)] or [[]]
    check = model_crc(values)
    return [entry_of(name, number, len(values), check, part, **more) for number, part in enumerate(parts)]


def model_made(files, count, size, directory):
    """Points 35 and 37: the blocks of a disc."""
    entries, data = [], []
    at = 1 + directory
    for name, values in files:
        needed = -(-len(values) // size)
        entries += file_entries(name, values, list(range(at, at + needed)))
        data += values + [0] * (needed * size - len(values))
        at += needed
    entries += [FREE] * (directory * size // 32 - len(entries))
    values = [69, 88] + two(count) + [directory] + [0] * (size - 5) + sum(entries, []) + data
    values += [0] * (count * size - len(values))
    return [values[start:start + size] for start in range(0, len(values), size)]


def blocks_of(disc):
    return [disc.block(index) for index in range(len(disc))]


def edited(disc, index, offset, values):
    """The disc with other bytes in a block."""
    block = disc.block(index)
    block[offset:offset + len(values)] = values
    return disc.with_block(index, block)


def without(disc, *indexes):
    for index in indexes:
        disc = disc.with_block(index, None)
    return disc


def entry_at(disc, place):
    block, offset = 1 + place * 32 // disc.size, place * 32 % disc.size
    return disc.block(block)[offset:offset + 32]


def with_entries(disc, entries):
    """The disc with other entries at their places in the directory, a dict."""
    for place, entry in entries.items():
        disc = edited(disc, 1 + place * 32 // disc.size, place * 32 % disc.size, entry)
    return disc


def model_entries(disc):
    """Point 38: the entries in use that are right, as tuples, and the numbers of bad ones."""
    directory = disc.block(0)[4]
    right, bad = [], []
    for place in range(directory * disc.size // 32):
        if disc.block(1 + place * 32 // disc.size) is None:
            continue
        part = entry_at(disc, place)
        if part[0] == 229:
            continue
        name = "".join(chr(code) for code in part[1:9]).rstrip(" ")
        formed = name != "" and all(letter in "ABCDEFGHIJKLMNOPQRSTUVWXYZ0123456789" for letter in name)
        numbers = [256 * part[at] + part[at + 1] for at in range(15, 31, 2)]
        many = part[14]
        formed = formed and part[0] == 1 and many <= 8 and set(numbers[many:]) <= {0} and summed(part) == part
        if formed and all(directory < number < len(disc) for number in numbers[:many]):
            length, check = 256 * part[10] + part[11], 256 * part[12] + part[13]
            right.append((name, part[9], length, check, numbers[:many]))
        else:
            bad.append(place)
    return right, bad


def model_read(disc, name):
    """Point 38: what is read of a file."""
    entries = [entry for entry in model_entries(disc)[0] if entry[0] == name]
    taken = {}
    for entry in entries:
        if entry[1] not in taken:
            taken[entry[1]] = entry
    _, _, length, check, _ = entries[0]
    values, runs, reason = [], [], ""
    needed = -(-length // disc.size)
    for at in range(needed):
        listed = taken[at // 8][4] if at // 8 in taken else []
        block = disc.block(listed[at % 8]) if at % 8 < len(listed) else None
        many = min(disc.size, length - len(values))
        if block is None and runs and sum(runs[-1]) == len(values):
            runs[-1] = (runs[-1][0], runs[-1][1] + many)
        elif block is None:
            runs.append((len(values), many))
        values += ([0] * disc.size if block is None else block)[:many]
    musts = [min(8, needed - at) for at in range(0, needed, 8)] or [0]
    if any(entry[2:4] != (length, check) for entry in taken.values()):
        reason = "other lengths"
    elif any(number not in taken or len(taken[number][4]) < must for number, must in enumerate(musts)):
        reason = "missing extent"
    elif any(number >= len(musts) or len(entry[4]) > musts[number] for number, entry in taken.items()):
        reason = "extra blocks"
    return values, runs, reason, not runs and reason == "" and model_crc(values) == check


class ExtentsTest(unittest.TestCase):

    def refused(self, error, call, *args):
        with self.assertRaises(DiscError) as caught:
            call(*args)
        self.assertIs(type(caught.exception), error)

    def no_file_system(self, disc):
        self.refused(NoFileSystem, extent_files, disc)
        self.refused(NoFileSystem, bad_entries, disc)
        self.refused(NoFileSystem, deleted_files, disc)
        for call in (read_extent, delete_file, bring_back):
            self.refused(NoFileSystem, call, disc, "ONE")
            self.refused(NoFileSystem, call, disc, "NONE")
        self.assertIs(are_extents_sound(disc), False)


class MakingTest(ExtentsTest):

    def made(self, files, count, size, directory):
        disc = make_extents(files, count, size, directory)
        self.assertIs(type(disc), BlockDisc)
        self.assertEqual(blocks_of(disc), model_made(files, count, size, directory))
        self.assertIs(are_extents_sound(disc), True)
        self.assertEqual(extent_files(disc), [name for name, _ in files])
        self.assertEqual([bad_entries(disc), deleted_files(disc)], [[], []])
        for name, values in files:
            self.assertEqual(read_extent(disc, name), (values, [], "", True))
        return disc

    def test_byte_by_byte(self):
        values = list(range(40))
        check = two(model_crc(values))
        disc = self.made([("ONE", values), ("E", [])], 10, 32, 3)
        self.assertEqual(disc.block(0), [69, 88, 0, 10, 3] + [0] * 27)
        part = [1, 79, 78, 69, 32, 32, 32, 32, 32, 0, 0, 40] + check + [2, 0, 4, 0, 5] + [0] * 12
        self.assertEqual(disc.block(1), part + [sum(part) % 256])
        part = [1, 69, 32, 32, 32, 32, 32, 32, 32, 0, 0, 0, 255, 255, 0] + [0] * 16
        self.assertEqual(disc.block(2), part + [sum(part) % 256])
        self.assertEqual(disc.block(3), [229] + [0] * 30 + [229])
        self.assertEqual([disc.block(index) for index in range(4, 10)],
                         [values[:32], values[32:] + [0] * 24] + [[0] * 32] * 4)

    def test_several_extents_byte_by_byte(self):
        values = [at % 256 for at in range(17 * 32)]
        disc = self.made([("LONGNAME", values)], 300, 32, 5)
        for number, blocks in enumerate((range(6, 14), range(14, 22), range(22, 23))):
            part = [1, 76, 79, 78, 71, 78, 65, 77, 69, number, 2, 32] + two(model_crc(values)) + [len(blocks)]
            part += [byte for index in blocks for byte in (0, index)]
            part += [0] * (31 - len(part))
            self.assertEqual(disc.block(1 + number), part + [sum(part) % 256])
        self.assertEqual([disc.block(4), disc.block(5)], [FREE, FREE])
        self.assertEqual(disc.block(6), values[:32])

    def test_numbers_of_blocks_of_a_file(self):
        for size in (32, 128):
            for blocks in (0, 1, 2, 7, 8, 9, 15, 16, 17, 24, 25):
                for length in sorted({max(0, blocks * size - size + 1), max(0, blocks * size - 1), blocks * size}):
                    values = [at * 3 % 256 for at in range(length)]
                    self.made([("A", [1]), ("B", values), ("C", [])], 60, size, 10)

    def test_no_files(self):
        for size in SIZES:
            self.assertEqual(self.made([], 30, size, 2).block(1), FREE * (size // 32))

    def test_any_files(self):
        source = random.Random(37)
        for _ in range(40):
            size = source.choice(SIZES)
            files = [(f"F{number}", [source.randrange(256) for _ in range(source.randrange(20 * size))])
                     for number in range(source.randrange(4))]
            self.made(files, source.randrange(80, 100), size, 12)

    def test_numbers_of_blocks(self):
        for count in (3, 0, -5, 2001, 10 ** 20):
            self.refused(InvalidFiles, make_extents, [], count, 32, 1)
        self.assertEqual(len(self.made([], 4, 32, 1)), 4)
        self.assertEqual(len(self.made([("A", [1])], 2000, 32, 20)), 2000)

    def test_sizes(self):
        for size in (0, 8, 16, 31, 33, 48, 1024, -32):
            self.refused(InvalidFiles, make_extents, [], 100, size, 1)
            self.refused(InvalidFiles, make_extents, [], 100, size, 20)
        for size in SIZES:
            self.assertEqual(self.made([("A", [1])], 4, size, 1).size, size)

    def test_numbers_of_blocks_of_the_directory(self):
        for directory in (0, -1, 21, 10 ** 20):
            self.refused(InvalidFiles, make_extents, [], 100, 32, directory)
        for directory in (1, 20):
            self.assertEqual(self.made([], 100, 64, directory).block(0)[4], directory)

    def test_names(self):
        self.made([("A", [1]), ("ABCDEFGH", [2]), ("12345678", [3]), ("0", [])], 20, 128, 1)
        for name in ("", "ABCDEFGHI", "a", "Ab", "A B", " ", "A "):
            self.refused(InvalidFiles, make_extents, [(name, [1])], 20, 128, 1)
            self.refused(InvalidFiles, make_extents, [("X", [1]), (name, []), ("Y", [2])], 20, 128, 1)
        self.refused(InvalidFiles, make_extents, [("A", [1]), ("A", [1])], 20, 128, 1)
        self.refused(InvalidFiles, make_extents, [("A", []), ("B", [1]), ("A", [2])], 20, 128, 1)

    def test_room_in_the_directory(self):
        for size, directory in ((32, 1), (32, 20), (64, 1), (512, 2)):
            room = size // 32 * directory
            files = [(f"N{number}", []) for number in range(room + 1)]
            self.made(files[:room], 60, size, directory)
            self.refused(InvalidFiles, make_extents, files, 60, size, directory)

    def test_room_for_several_entries_of_a_file(self):
        self.made([("A", [1] * 32 * 16)], 60, 32, 2)
        self.refused(InvalidFiles, make_extents, [("A", [1] * (32 * 16 + 1))], 60, 32, 2)
        self.refused(InvalidFiles, make_extents, [("A", [1] * 32 * 16), ("B", [])], 60, 32, 2)
        self.made([("A", [1] * 32 * 8), ("B", [])], 60, 32, 2)
        self.made([("A", [1] * (32 * 16 + 1)), ("B", [])], 60, 32, 4)

    def test_room_in_the_data_blocks(self):
        for count, size, directory in ((20, 32, 4), (12, 64, 2), (21, 128, 1)):
            room = count - 1 - directory
            full = [1] * (room * size)
            self.made([("A", full)], count, size, directory)
            self.refused(InvalidFiles, make_extents, [("A", full + [1])], count, size, directory)
            self.refused(InvalidFiles, make_extents, [("A", full), ("B", [1])], count, size, directory)
            files = [("A", full[:-size]), ("B", [1] * (size + 1))]
            self.refused(InvalidFiles, make_extents, files, count, size, directory)
        self.made([], 4, 32, 3)
        self.refused(InvalidFiles, make_extents, [], 4, 32, 4)
        self.refused(InvalidFiles, make_extents, [("A", [1])], 4, 32, 3)

    def test_long_files(self):
        values = [at * 7 % 256 for at in range(60001)]
        self.made([("A", values[:60000])], 200, 512, 1)
        self.refused(InvalidFiles, make_extents, [("A", values)], 200, 512, 1)
        self.refused(InvalidFiles, make_extents, [("B", [1]), ("A", values)], 200, 512, 1)

    def test_indexes_of_two_bytes(self):
        disc = self.made([("A", [1] * 512 * 117), ("B", [2] * 512 * 117), ("C", [3] * 512 * 100)], 400, 512, 3)
        self.assertEqual(entry_at(disc, 30)[:15], entry_of("C", 0, 51200, model_crc([3] * 51200), [0] * 8)[:15])
        self.assertEqual(entry_at(disc, 42)[14:17], [4, 1, 78])

    def test_the_files_and_lists_stay(self):
        values = [1, 2, 3]
        files = [("A", values), ("B", [])]
        disc = make_extents(files, 10, 64, 1)
        self.assertEqual([files, values], [[("A", [1, 2, 3]), ("B", [])], [1, 2, 3]])
        values.append(9)
        files.append(("C", []))
        self.assertEqual([extent_files(disc), read_extent(disc, "A")[0]], [["A", "B"], [1, 2, 3]])


# Blocks 0 head, 1 to 3 directory with 2 entries each, 4 to 12 ONE, 13 and 14 TWO, none EMPTY, 15 to 29 free.
ONE = [1 + at % 250 for at in range(8 * 64 + 20)]
TWO = [200] * 100
FILES = [("ONE", ONE), ("TWO", TWO), ("EMPTY", [])]
DISC = make_extents(FILES, 30, 64, 3)
# The entries: 0 and 1 ONE, 2 TWO, 3 EMPTY, 4 and 5 free.
CRC_ONE, CRC_TWO = model_crc(ONE), model_crc(TWO)


class HeadTest(ExtentsTest):

    def test_a_missing_head(self):
        self.no_file_system(DISC.with_block(0, None))

    def test_each_byte_of_the_head(self):
        for at in range(64):
            for more in (1, 2, 100, 255):
                if at != 4:
                    self.no_file_system(edited(DISC, 0, at, [(DISC.block(0)[at] + more) % 256]))

    def test_the_number_of_blocks_of_the_directory(self):
        for directory in (0, 21, 30, 255):
            self.no_file_system(edited(DISC, 0, 4, [directory]))
        self.assertEqual(extent_files(edited(DISC, 0, 4, [2])), ["ONE", "TWO", "EMPTY"])
        self.assertEqual(extent_files(edited(DISC, 0, 4, [20])), ["EMPTY"])
        disc = make_extents([], 8, 32, 3)
        self.assertEqual(extent_files(edited(disc, 0, 4, [7])), [])
        self.no_file_system(edited(disc, 0, 4, [8]))

    def test_discs_without_a_file_system(self):
        for blocks in ([[0] * 32] * 8, [[69, 88, 0, 4, 1] + [0] * 11] * 4, [[67, 72, 0, 8, 1, 1] + [0] * 26] * 8,
                       [[69, 88, 0, 1, 1] + [0] * 27], [None, [1] * 64]):
            self.no_file_system(BlockDisc(blocks))
        self.no_file_system(make_chains([("ONE", [1])], 12, 32, 1))
        self.no_file_system(BlockDisc(blocks_of(DISC)[:29]))
        self.no_file_system(BlockDisc(blocks_of(DISC) + [[0] * 64]))


class EntriesTest(ExtentsTest):

    def bad(self, entries, places, names=("ONE", "TWO", "EMPTY")):
        disc = with_entries(DISC, entries)
        self.assertEqual([bad_entries(disc), extent_files(disc)], [places, list(names)])
        self.assertIs(are_extents_sound(disc), False)
        self.assertEqual(model_entries(disc)[1], places)

    def test_first_bytes(self):
        for first in (0, 2, 228, 230, 255):
            self.bad({4: [first] + FREE[1:]}, [4])
            self.bad({4: summed([first] + FREE[1:])}, [4])
            self.bad({2: summed([first] + entry_at(DISC, 2)[1:])}, [2], ["ONE", "EMPTY"])
            self.bad({2: [first] + entry_at(DISC, 2)[1:]}, [2], ["ONE", "EMPTY"])

    def test_names(self):
        for codes in ([32] * 8, [32, 65] + [32] * 6, [65, 32, 66] + [32] * 5, [97] + [32] * 7, [65] + [0] * 7,
                      [65] * 7 + [0], [0] * 8, [255] * 8, [65, 46] + [32] * 6, [65] * 7 + [97], [64] + [32] * 7):
            self.bad({2: summed([1] + codes + entry_at(DISC, 2)[9:])}, [2], ["ONE", "EMPTY"])
            self.bad({5: summed([1] + codes + entry_at(DISC, 3)[9:])}, [5])

    def test_numbers_of_blocks_of_an_extent(self):
        entry = entry_at(DISC, 0)
        for count in (9, 10, 255):
            self.bad({0: summed(entry[:14] + [count] + entry[15:])}, [0], ["ONE", "TWO", "EMPTY"])
        entry = entry_at(DISC, 2)
        for count in (9, 255):
            self.bad({2: summed(entry[:14] + [count] + entry[15:])}, [2], ["ONE", "EMPTY"])

    def test_bytes_behind_the_blocks_that_are_not_0(self):
        entry = entry_at(DISC, 2)
        for at in range(19, 31):
            self.bad({2: summed(entry[:at] + [1] + entry[at + 1:])}, [2], ["ONE", "EMPTY"])
        for count in (0, 1):
            self.bad({2: summed(entry[:14] + [count] + entry[15:])}, [2], ["ONE", "EMPTY"])
        entry = entry_at(DISC, 3)
        for at in range(15, 31):
            self.bad({3: summed(entry[:at] + [15] + entry[at + 1:])}, [3], ["ONE", "TWO"])

    def test_sums(self):
        for place, names in ((0, ["ONE", "TWO", "EMPTY"]), (2, ["ONE", "EMPTY"]), (3, ["ONE", "TWO"])):
            entry = entry_at(DISC, place)
            for more in (1, 128, 255):
                self.bad({place: entry[:31] + [(entry[31] + more) % 256]}, [place], names)
            for at in range(1, 31):
                self.bad({place: entry[:at] + [(entry[at] + 7) % 256] + entry[at + 1:]}, [place], names)

    def test_blocks_that_are_no_data_blocks(self):
        for index in (0, 1, 3, 30, 31, 65535, 256):
            self.bad({2: entry_of("TWO", 0, 100, CRC_TWO, [13, index])}, [2], ["ONE", "EMPTY"])
            self.bad({2: entry_of("TWO", 0, 100, CRC_TWO, [index, 14])}, [2], ["ONE", "EMPTY"])
            self.bad({4: entry_of("NEW", 0, 3, 5, [index])}, [4])
        disc = with_entries(DISC, {2: entry_of("TWO", 0, 100, CRC_TWO, [4, 29])})
        self.assertEqual([bad_entries(disc), extent_files(disc)], [[], ["ONE", "TWO", "EMPTY"]])

    def test_free_entries_are_never_bad(self):
        for entry in ([229] + [7] * 31, [229] + [0] * 31, [229] + entry_at(DISC, 2)[1:], FREE):
            for place in (2, 4):
                disc = with_entries(DISC, {place: entry})
                self.assertEqual(bad_entries(disc), [])
                self.assertEqual(extent_files(disc), ["ONE", "TWO", "EMPTY"] if place == 4 else ["ONE", "EMPTY"])

    def test_entries_behind_a_free_one_are_read(self):
        disc = with_entries(DISC, {0: FREE, 1: FREE})
        self.assertEqual(extent_files(disc), ["TWO", "EMPTY"])
        disc = with_entries(DISC, {5: entry_of("LAST", 0, 0, 65535, [])})
        self.assertEqual(extent_files(disc), ["ONE", "TWO", "EMPTY", "LAST"])

    def test_names_are_told_once_in_the_order_of_the_directory(self):
        disc = with_entries(DISC, {0: entry_at(DISC, 3), 3: entry_at(DISC, 0), 4: entry_at(DISC, 2)})
        self.assertEqual(extent_files(disc), ["EMPTY", "ONE", "TWO"])

    def test_missing_blocks_of_the_directory(self):
        for lost, names in (([1], ["TWO", "EMPTY"]), ([2], ["ONE"]), ([3], ["ONE", "TWO", "EMPTY"]), ([1, 2, 3], [])):
            disc = without(DISC, *lost)
            self.assertEqual([extent_files(disc), bad_entries(disc), deleted_files(disc)], [names, [], []])
            for name in ("ONE", "TWO", "EMPTY"):
                if name not in names:
                    self.refused(InvalidFiles, read_extent, disc, name)

    def test_numbers_are_counted_over_the_whole_directory(self):
        disc = with_entries(without(DISC, 1), {3: [7] * 32, 5: [8] * 32})
        self.assertEqual([bad_entries(disc), extent_files(disc)], [[3, 5], ["TWO"]])
        disc = with_entries(DISC, {place: [7] * 32 for place in range(6)})
        self.assertEqual([bad_entries(disc), extent_files(disc)], [[0, 1, 2, 3, 4, 5], []])


class ReadingTest(ExtentsTest):

    def reads(self, disc, name, *wanted):
        told = read_extent(disc, name)
        self.assertEqual(told, wanted)
        self.assertEqual([type(told), type(told[0]), type(told[1]), type(told[3])], [tuple, list, list, bool])

    def test_whole_files(self):
        self.reads(DISC, "ONE", ONE, [], "", True)
        self.reads(DISC, "TWO", TWO, [], "", True)
        self.reads(DISC, "EMPTY", [], [], "", True)

    def test_names_that_are_not_there(self):
        for name in ("THREE", "", "one", "ONE ", "ON", "A LONG NAME"):
            self.refused(InvalidFiles, read_extent, DISC, name)

    def test_missing_blocks(self):
        self.reads(without(DISC, 4), "ONE", [0] * 64 + ONE[64:], [(0, 64)], "", False)
        self.reads(without(DISC, 5, 7), "ONE", ONE[:64] + [0] * 64 + ONE[128:192] + [0] * 64 + ONE[256:],
                   [(64, 64), (192, 64)], "", False)
        self.reads(without(DISC, 11, 12), "ONE", ONE[:448] + [0] * 84, [(448, 84)], "", False)
        self.reads(without(DISC, 13), "TWO", [0] * 64 + TWO[64:], [(0, 64)], "", False)
        self.reads(without(DISC, 14), "TWO", TWO[:64] + [0] * 36, [(64, 36)], "", False)
        self.reads(without(DISC, 13, 14), "TWO", [0] * 100, [(0, 100)], "", False)
        self.reads(without(DISC, 4, 15, 29), "TWO", TWO, [], "", True)

    def test_a_wrong_crc(self):
        self.reads(edited(DISC, 13, 3, [99]), "TWO", [200] * 3 + [99] + [200] * 96, [], "", False)
        self.reads(with_entries(DISC, {2: entry_of("TWO", 0, 100, 5, [13, 14])}), "TWO", TWO, [], "", False)
        self.reads(with_entries(DISC, {3: entry_of("EMPTY", 0, 0, 0, [])}), "EMPTY", [], [], "", False)
        self.reads(edited(DISC, 14, 36, [9] * 28), "TWO", TWO, [], "", True)

    def test_a_missing_block_whose_bytes_were_0(self):
        disc = make_extents([("ZERO", [0] * 100)], 10, 64, 1)
        self.reads(disc, "ZERO", [0] * 100, [], "", True)
        self.reads(without(disc, 2), "ZERO", [0] * 100, [(0, 64)], "", False)
        self.assertEqual([are_extents_sound(disc), are_extents_sound(without(disc, 2))], [True, False])

    def test_extents_in_another_order(self):
        disc = with_entries(DISC, {0: entry_at(DISC, 1), 1: entry_at(DISC, 0)})
        self.reads(disc, "ONE", ONE, [], "", True)
        self.assertEqual(extent_files(disc), ["ONE", "TWO", "EMPTY"])
        disc = with_entries(DISC, {1: entry_at(DISC, 2), 2: entry_at(DISC, 3), 3: entry_at(DISC, 1)})
        self.reads(disc, "ONE", ONE, [], "", True)

    def test_missing_extents(self):
        self.reads(with_entries(DISC, {0: FREE}), "ONE", [0] * 512 + ONE[512:], [(0, 512)], "missing extent", False)
        self.reads(with_entries(DISC, {1: FREE}), "ONE", ONE[:512] + [0] * 20, [(512, 20)], "missing extent", False)
        disc = with_entries(DISC, {3: entry_of("EMPTY", 1, 0, 65535, [])})
        self.reads(disc, "EMPTY", [], [], "missing extent", False)
        disc = with_entries(DISC, {2: entry_of("TWO", 3, 100, CRC_TWO, [13, 14])})
        self.reads(disc, "TWO", [0] * 100, [(0, 100)], "missing extent", False)

    def test_extents_that_are_too_short(self):
        disc = with_entries(DISC, {2: entry_of("TWO", 0, 100, CRC_TWO, [13])})
        self.reads(disc, "TWO", TWO[:64] + [0] * 36, [(64, 36)], "missing extent", False)
        disc = with_entries(DISC, {2: entry_of("TWO", 0, 100, CRC_TWO, [])})
        self.reads(disc, "TWO", [0] * 100, [(0, 100)], "missing extent", False)
        disc = with_entries(DISC, {0: entry_of("ONE", 0, 532, CRC_ONE, [4, 5, 6, 7, 8, 9, 10])})
        self.reads(disc, "ONE", ONE[:448] + [0] * 64 + ONE[512:], [(448, 64)], "missing extent", False)
        self.reads(without(disc, 12), "ONE", ONE[:448] + [0] * 84, [(448, 84)], "missing extent", False)
        disc = with_entries(DISC, {1: entry_of("ONE", 1, 532, CRC_ONE, [])})
        self.reads(disc, "ONE", ONE[:512] + [0] * 20, [(512, 20)], "missing extent", False)

    def test_extra_blocks(self):
        disc = with_entries(DISC, {2: entry_of("TWO", 0, 100, CRC_TWO, [13, 14, 15])})
        self.reads(disc, "TWO", TWO, [], "extra blocks", False)
        self.reads(without(disc, 15), "TWO", TWO, [], "extra blocks", False)
        self.reads(without(disc, 13), "TWO", [0] * 64 + TWO[64:], [(0, 64)], "extra blocks", False)
        disc = with_entries(DISC, {3: entry_of("EMPTY", 0, 0, 65535, [20])})
        self.reads(disc, "EMPTY", [], [], "extra blocks", False)
        disc = with_entries(DISC, {1: entry_of("ONE", 1, 532, CRC_ONE, [12, 15])})
        self.reads(disc, "ONE", ONE, [], "extra blocks", False)

    def test_extra_extents(self):
        for number in (1, 2, 255):
            for blocks in ([], [15]):
                disc = with_entries(DISC, {4: entry_of("TWO", number, 100, CRC_TWO, blocks)})
                self.reads(disc, "TWO", TWO, [], "extra blocks", False)
                disc = with_entries(DISC, {4: entry_of("EMPTY", number, 0, 65535, blocks)})
                self.reads(disc, "EMPTY", [], [], "extra blocks", False)

    def test_extents_with_one_number(self):
        """The first one alone is taken."""
        for entry in (entry_of("TWO", 0, 100, CRC_TWO, [15, 16]), entry_of("TWO", 0, 3, 9, []), entry_at(DISC, 2),
                      entry_of("TWO", 0, 100, CRC_TWO, [13, 14, 15])):
            disc = with_entries(DISC, {4: entry})
            self.reads(disc, "TWO", TWO, [], "", True)
            self.assertEqual([bad_entries(disc), extent_files(disc)], [[], ["ONE", "TWO", "EMPTY"]])
            self.assertIs(are_extents_sound(disc), False)
        disc = with_entries(DISC, {2: entry_of("TWO", 0, 3, model_crc([0] * 3), [15]), 4: entry_at(DISC, 2)})
        self.reads(disc, "TWO", [0] * 3, [], "", True)

    def test_extents_with_one_number_of_a_longer_file(self):
        disc = with_entries(DISC, {4: entry_of("ONE", 1, 7, 8, [20, 21]), 5: entry_of("ONE", 0, 1, 1, [])})
        self.reads(disc, "ONE", ONE, [], "", True)
        disc = with_entries(disc, {1: FREE})
        self.reads(disc, "ONE", ONE[:512] + [0] * 20, [], "other lengths", False)

    def test_a_bad_entry_does_not_count(self):
        disc = with_entries(DISC, {4: entry_of("TWO", 0, 3, 9, [], first=2), 5: entry_of("TWO", 1, 3, 9, [99])})
        self.reads(disc, "TWO", TWO, [], "", True)
        disc = with_entries(DISC, {0: entry_of("TWO", 0, 3, 9, [99])})
        self.reads(disc, "TWO", TWO, [], "", True)

    def test_other_lengths(self):
        """The length is that of the first entry in the order of the directory."""
        disc = with_entries(DISC, {0: entry_of("ONE", 0, 531, CRC_ONE, list(range(4, 12)))})
        self.reads(disc, "ONE", ONE[:531], [], "other lengths", False)
        disc = with_entries(DISC, {1: entry_of("ONE", 1, 531, CRC_ONE, [12])})
        self.reads(disc, "ONE", ONE, [], "other lengths", False)
        disc = with_entries(DISC, {1: entry_of("ONE", 1, 532, CRC_ONE ^ 1, [12])})
        self.reads(disc, "ONE", ONE, [], "other lengths", False)
        disc = with_entries(DISC, {0: entry_of("ONE", 1, 514, CRC_ONE, [12]), 1: entry_at(DISC, 0)})
        self.reads(disc, "ONE", ONE[:514], [], "other lengths", False)
        disc = with_entries(DISC, {0: entry_of("ONE", 0, 70, CRC_ONE, list(range(4, 12)))})
        self.reads(disc, "ONE", ONE[:70], [], "other lengths", False)

    def test_which_reason_comes_first(self):
        short = entry_of("ONE", 0, 532, CRC_ONE, [4])
        lost = [(64, 448)]
        values = ONE[:64] + [0] * 448 + ONE[512:]
        disc = with_entries(DISC, {0: short, 4: entry_of("ONE", 2, 531, CRC_ONE, [15])})
        self.reads(disc, "ONE", values, lost, "other lengths", False)
        disc = with_entries(DISC, {0: short, 4: entry_of("ONE", 2, 532, CRC_ONE, [15])})
        self.reads(disc, "ONE", values, lost, "missing extent", False)
        disc = with_entries(DISC, {0: short, 1: entry_of("ONE", 1, 532, CRC_ONE, [12, 15])})
        self.reads(disc, "ONE", values, lost, "missing extent", False)
        disc = with_entries(DISC, {4: entry_of("ONE", 2, 532, CRC_ONE ^ 8, [])})
        self.reads(disc, "ONE", ONE, [], "other lengths", False)
        disc = with_entries(DISC, {3: entry_of("EMPTY", 1, 0, 65535, [15])})
        self.reads(disc, "EMPTY", [], [], "missing extent", False)

    def test_a_block_that_is_used_twice(self):
        disc = with_entries(DISC, {2: entry_of("TWO", 0, 100, CRC_TWO, [13, 13])})
        self.reads(disc, "TWO", TWO, [], "", True)

    def test_any_damage(self):
        source = random.Random(38)
        reasons = {}
        for _ in range(1500):
            disc = DISC
            for _ in range(source.randrange(1, 5)):
                kind = source.randrange(5)
                if kind == 0:
                    disc = disc.with_block(source.randrange(4, 16), None)
                elif kind == 1:
                    disc = disc.with_block(source.randrange(1, 4), None)
                elif kind < 4:
                    disc = self.with_any_entry(disc, source)
                else:
                    disc = self.with_any_byte(disc, source)
            entries, bad = model_entries(disc)
            names = list({entry[0]: True for entry in entries})
            self.assertEqual([extent_files(disc), bad_entries(disc)], [names, bad])
            for name in names:
                told = read_extent(disc, name)
                self.assertEqual(told, model_read(disc, name))
                reasons[told[2]] = True
        self.assertEqual(sorted(reasons), ["", "extra blocks", "missing extent", "other lengths"])

    def with_any_entry(self, disc, source):
        place = source.randrange(6)
        if disc.block(1 + place // 2) is None:
            return disc
        name, length, check = source.choice((("ONE", 532, CRC_ONE), ("ONE", 512, CRC_ONE), ("TWO", 100, CRC_TWO)))
        blocks = source.sample(range(4, 17), source.randrange(9))
        return with_entries(disc, {place: entry_of(name, source.randrange(3), length, check, blocks)})

    def with_any_byte(self, disc, source):
        index = source.randrange(1, 16)
        return disc if disc.block(index) is None else edited(disc, index, source.randrange(64), [source.randrange(256)])

    def test_the_disc_stays(self):
        blocks = blocks_of(DISC)
        read_extent(DISC, "ONE")[0].append(5)
        extent_files(DISC).append("X")
        bad_entries(DISC).append(5)
        delete_file(DISC, "ONE")
        are_extents_sound(DISC)
        self.assertEqual(blocks_of(DISC), blocks)
        self.assertEqual([extent_files(DISC), bad_entries(DISC)], [["ONE", "TWO", "EMPTY"], []])


class DeletingTest(ExtentsTest):

    def cannot(self, disc, name, others=()):
        """A file that cannot be brought back."""
        self.assertEqual(deleted_files(disc), list(others))
        self.refused(InvalidFiles, bring_back, disc, name)

    def can(self, disc, name, values):
        self.assertEqual(deleted_files(disc), [name])
        back = bring_back(disc, name)
        self.assertEqual(read_extent(back, name), (values, [], "", True))
        self.assertEqual(deleted_files(back), [])
        return back

    def test_deleting(self):
        gone = delete_file(DISC, "ONE")
        self.assertIs(type(gone), BlockDisc)
        wanted = with_entries(DISC, {0: [229] + entry_at(DISC, 0)[1:], 1: [229] + entry_at(DISC, 1)[1:]})
        self.assertTrue(gone == wanted)
        self.assertEqual([extent_files(gone), bad_entries(gone), deleted_files(gone)], [["TWO", "EMPTY"], [], ["ONE"]])
        self.refused(InvalidFiles, read_extent, gone, "ONE")
        self.refused(InvalidFiles, delete_file, gone, "ONE")
        self.assertIs(are_extents_sound(gone), True)

    def test_the_sum_is_right_for_the_byte_1(self):
        gone = delete_file(DISC, "TWO")
        part = entry_at(gone, 2)
        self.assertEqual(part[0], 229)
        self.assertEqual(part[31], (1 + sum(part[1:31])) % 256)

    def test_bringing_back(self):
        for name, values in FILES:
            gone = delete_file(DISC, name)
            self.assertTrue(self.can(gone, name, values) == DISC)

    def test_several_deleted_files(self):
        disc = DISC
        for name in ("TWO", "ONE", "EMPTY"):
            disc = delete_file(disc, name)
        self.assertEqual([extent_files(disc), deleted_files(disc)], [[], ["EMPTY", "ONE", "TWO"]])
        back = bring_back(disc, "TWO")
        self.assertEqual([extent_files(back), deleted_files(back)], [["TWO"], ["EMPTY", "ONE"]])
        self.assertTrue(bring_back(bring_back(back, "EMPTY"), "ONE") == DISC)

    def test_names_that_are_not_there(self):
        for name in ("THREE", "", "one", "A LONG NAME"):
            self.refused(InvalidFiles, delete_file, DISC, name)
            self.refused(InvalidFiles, bring_back, DISC, name)
            self.refused(InvalidFiles, bring_back, delete_file(DISC, "ONE"), name)
        self.refused(InvalidFiles, bring_back, DISC, "ONE")
        self.refused(InvalidFiles, bring_back, delete_file(DISC, "ONE"), "TWO")

    def test_deleting_a_damaged_file(self):
        gone = delete_file(without(DISC, 13), "TWO")
        self.assertEqual(extent_files(gone), ["ONE", "EMPTY"])
        self.cannot(gone, "TWO")

    def test_entries_in_missing_blocks(self):
        gone = delete_file(without(DISC, 3), "ONE")
        self.assertEqual([extent_files(gone), gone.missing()], [["TWO", "EMPTY"], [3]])
        self.cannot(without(delete_file(DISC, "ONE"), 1), "ONE")

    def test_a_name_that_is_used_again(self):
        gone = delete_file(DISC, "TWO")
        again = with_entries(gone, {4: entry_of("TWO", 0, 3, model_crc([0] * 3), [20])})
        self.assertEqual(extent_files(again), ["ONE", "EMPTY", "TWO"])
        self.cannot(again, "TWO")
        self.cannot(with_entries(gone, {4: entry_of("TWO", 7, 0, 5, [])}), "TWO")
        self.assertTrue(delete_file(with_entries(gone, {4: entry_of("NEW", 0, 0, 5, [])}), "NEW") != gone)

    def test_a_bad_entry_with_the_name_is_no_file_in_use(self):
        gone = delete_file(DISC, "TWO")
        self.can(with_entries(gone, {4: entry_of("TWO", 0, 0, 5, [], first=2)}), "TWO", TWO)
        self.can(with_entries(gone, {4: entry_of("TWO", 0, 0, 5, [1])}), "TWO", TWO)

    def test_a_name_that_was_used_and_deleted_twice(self):
        gone = delete_file(DISC, "TWO")
        again = with_entries(gone, {4: entry_of("TWO", 0, 64, model_crc([0] * 64), [20])})
        self.cannot(delete_file(again, "TWO"), "TWO")

    def test_blocks_that_are_used_again(self):
        gone = delete_file(DISC, "TWO")
        for index in (13, 14):
            self.cannot(with_entries(gone, {4: entry_of("NEW", 0, 64, 5, [index])}), "TWO")
            self.cannot(with_entries(gone, {4: entry_of("NEW", 1, 0, 5, [20, index])}), "TWO")
        for index in (12, 15):
            self.can(with_entries(gone, {4: entry_of("NEW", 0, 64, 5, [index])}), "TWO", TWO)

    def test_blocks_of_another_deleted_file(self):
        """Only files in use count."""
        gone = delete_file(DISC, "TWO")
        gone = with_entries(gone, {4: entry_of("NEW", 0, 64, model_crc([200] * 64), [13], first=229)})
        self.assertEqual(deleted_files(gone), ["NEW", "TWO"])
        self.cannot(bring_back(gone, "NEW"), "TWO")
        self.cannot(bring_back(gone, "TWO"), "NEW")

    def test_blocks_that_are_used_twice(self):
        gone = with_entries(DISC, {2: entry_of("TWO", 0, 100, CRC_TWO, [13, 13], first=229)})
        self.cannot(gone, "TWO")
        values = [5] * 64 * 9
        disc = with_entries(DISC.with_block(20, [5] * 64), {
            4: entry_of("MANY", 0, 576, model_crc(values), [20] * 8, first=229),
            5: entry_of("MANY", 1, 576, model_crc(values), [20], first=229),
        })
        self.cannot(disc, "MANY")

    def test_blocks_that_are_no_data_blocks(self):
        """Even if their bytes are just those that the file had."""
        values = [5] * 512 + DISC.block(0)
        disc = DISC
        for index in range(20, 29):
            disc = disc.with_block(index, values[64 * (index - 20):64 * (index - 19)])
        for last in (28, 0):
            entries = file_entries("MANY", values, list(range(20, 28)) + [last], first=229)
            gone = with_entries(disc, {4: entries[0], 5: entries[1]})
            if last == 28:
                self.can(gone, "MANY", values)
            else:
                self.cannot(gone, "MANY")

    def test_missing_and_changed_blocks(self):
        gone = delete_file(DISC, "ONE")
        for index in (4, 8, 12):
            self.cannot(without(gone, index), "ONE")
            self.cannot(edited(gone, index, 5, [255]), "ONE")
        self.can(without(gone, 15, 29), "ONE", ONE)
        self.can(edited(gone, 12, 20, [9] * 44), "ONE", ONE)

    def test_missing_entries(self):
        gone = delete_file(DISC, "ONE")
        for place in (0, 1):
            self.cannot(with_entries(gone, {place: FREE}), "ONE")
            self.cannot(with_entries(gone, {place: entry_at(DISC, 3)}), "ONE")

    def test_one_entry_in_use_and_one_deleted(self):
        for place in (0, 1):
            disc = with_entries(DISC, {place: [229] + entry_at(DISC, place)[1:]})
            self.assertEqual(extent_files(disc), ["ONE", "TWO", "EMPTY"])
            self.cannot(disc, "ONE")

    def test_doubled_entries(self):
        gone = delete_file(DISC, "ONE")
        self.cannot(with_entries(gone, {4: entry_at(gone, 0)}), "ONE")
        self.cannot(with_entries(gone, {4: entry_at(gone, 1)}), "ONE")
        gone = delete_file(DISC, "EMPTY")
        self.cannot(with_entries(gone, {4: entry_at(gone, 3)}), "EMPTY")
        self.cannot(delete_file(with_entries(DISC, {4: entry_at(DISC, 2)}), "TWO"), "TWO")

    def test_entries_beyond_those_that_the_length_needs(self):
        for number, blocks in ((1, []), (1, [20]), (200, [])):
            gone = with_entries(delete_file(DISC, "TWO"),
                                {4: entry_of("TWO", number, 100, CRC_TWO, blocks, first=229)})
            self.cannot(gone, "TWO")

    def test_blocks_beyond_those_that_the_length_needs(self):
        self.cannot(with_entries(DISC, {2: entry_of("TWO", 0, 100, CRC_TWO, [13, 14, 15], first=229)}), "TWO")
        self.cannot(with_entries(DISC, {2: entry_of("TWO", 0, 100, CRC_TWO, [13], first=229)}), "TWO")
        self.cannot(with_entries(DISC, {3: entry_of("EMPTY", 0, 0, 65535, [15], first=229)}), "EMPTY")

    def test_other_lengths_and_crcs(self):
        gone = delete_file(DISC, "ONE")
        self.cannot(with_entries(gone, {1: entry_of("ONE", 1, 531, CRC_ONE, [12], first=229)}), "ONE")
        self.cannot(with_entries(gone, {1: entry_of("ONE", 1, 532, 5, [12], first=229)}), "ONE")
        self.cannot(with_entries(DISC, {2: entry_of("TWO", 0, 100, 5, [13, 14], first=229)}), "TWO")

    def test_extents_in_another_order(self):
        gone = delete_file(DISC, "ONE")
        swapped = with_entries(gone, {0: entry_at(gone, 1), 1: entry_at(gone, 0)})
        back = self.can(swapped, "ONE", ONE)
        self.assertTrue(back == with_entries(DISC, {0: entry_at(DISC, 1), 1: entry_at(DISC, 0)}))

    def test_the_form_and_the_sum_of_deleted_entries(self):
        part = entry_of("TWO", 0, 100, CRC_TWO, [13, 14], first=229)
        self.can(with_entries(DISC, {2: part}), "TWO", TWO)
        for wrong in (summed(part), part[:31] + [(part[31] + 1) % 256],
                      entry_of("TWO", 0, 100, CRC_TWO, [13, 14], first=229, summing=2),
                      entry_of("TWO", 0, 100, CRC_TWO, [13, 14], first=229, count=9),
                      entry_of("TWO", 0, 100, CRC_TWO, [13, 14, 15], first=229, count=2),
                      entry_of("TWO", 0, 100, CRC_TWO, [13, 30], first=229),
                      entry_of("TWO", 0, 100, CRC_TWO, [3, 13], first=229),
                      entry_of("two", 0, 100, CRC_TWO, [13, 14], first=229)):
            disc = with_entries(DISC, {2: wrong})
            self.assertEqual(bad_entries(disc), [])
            self.cannot(disc, "TWO")
            self.refused(InvalidFiles, bring_back, disc, "two")

    def test_free_entries_are_no_deleted_files(self):
        self.assertEqual(deleted_files(make_extents([], 30, 64, 3)), [])

    def test_the_disc_stays(self):
        gone = delete_file(DISC, "ONE")
        blocks = blocks_of(gone)
        deleted_files(gone).append("X")
        bring_back(gone, "ONE")
        self.assertEqual([blocks_of(gone), deleted_files(gone)], [blocks, ["ONE"]])


class SoundTest(ExtentsTest):

    def sound(self, disc):
        self.assertIs(are_extents_sound(disc), True)

    def unsound(self, disc):
        self.assertIs(are_extents_sound(disc), False)

    def test_made_discs(self):
        self.sound(DISC)

    def test_missing_blocks(self):
        for index in range(30):
            disc = DISC.with_block(index, None)
            if index < 15:
                self.unsound(disc)
            else:
                self.sound(disc)

    def test_missing_blocks_that_no_file_has(self):
        disc = make_extents([], 30, 64, 3)
        self.sound(disc)
        self.unsound(without(disc, 3))
        self.sound(without(disc, 4))
        self.sound(without(disc, *range(4, 30)))

    def test_entries_of_another_form(self):
        self.unsound(with_entries(DISC, {4: [7] * 32}))
        self.unsound(with_entries(DISC, {5: [0] * 32}))
        self.unsound(with_entries(DISC, {2: entry_of("TWO", 0, 100, CRC_TWO, [13, 30])}))
        self.sound(with_entries(DISC, {5: entry_of("NEW", 0, 0, 65535, [])}))

    def test_missing_and_extra_extents_and_blocks(self):
        for entries in (
            {0: FREE}, {1: FREE}, {4: entry_of("TWO", 1, 100, CRC_TWO, [])},
            {2: entry_of("TWO", 0, 100, CRC_TWO, [13])}, {2: entry_of("TWO", 0, 100, CRC_TWO, [13, 14, 15])},
            {3: entry_of("EMPTY", 1, 0, 65535, [])}, {3: entry_of("EMPTY", 0, 0, 65535, [15])},
        ):
            self.unsound(with_entries(DISC, entries))
        self.sound(with_entries(DISC, {2: FREE}))
        self.sound(with_entries(DISC, {0: FREE, 1: FREE}))

    def test_two_extents_with_one_number(self):
        self.unsound(with_entries(DISC, {4: entry_of("EMPTY", 0, 0, 65535, [])}))
        self.unsound(with_entries(DISC, {4: entry_at(DISC, 2)}))
        self.unsound(with_entries(DISC.with_block(15, [200] * 64).with_block(16, [200] * 64),
                                  {4: entry_of("TWO", 0, 100, CRC_TWO, [15, 16])}))

    def test_lengths_and_crcs_that_differ(self):
        self.unsound(with_entries(DISC, {1: entry_of("ONE", 1, 531, CRC_ONE, [12])}))
        self.unsound(with_entries(DISC, {1: entry_of("ONE", 1, 532, CRC_ONE ^ 1, [12])}))

    def test_blocks_that_are_used_twice(self):
        self.unsound(with_entries(DISC, {2: entry_of("TWO", 0, 100, CRC_TWO, [13, 13])}))
        disc = with_entries(DISC, {4: entry_of("NEW", 0, 64, model_crc([200] * 64), [13])})
        self.assertEqual(read_extent(disc, "NEW")[3], True)
        self.unsound(disc)
        disc = with_entries(DISC, {4: entry_of("NEW", 0, 64, model_crc([0] * 64), [20])})
        self.sound(disc)

    def test_wrong_crcs(self):
        self.unsound(edited(DISC, 13, 3, [99]))
        self.unsound(with_entries(DISC, {3: entry_of("EMPTY", 0, 0, 0, [])}))
        self.sound(edited(DISC, 14, 40, [99]))
        self.sound(edited(DISC, 20, 3, [99]))

    def test_free_entries_may_have_any_bytes(self):
        self.sound(with_entries(DISC, {4: [229] + [7] * 31, 0: [229] + [0] * 31, 1: [229] + entry_at(DISC, 1)[1:]}))

    def test_no_file_system(self):
        self.unsound(BlockDisc([[0] * 32] * 8))
        self.unsound(edited(DISC, 0, 4, [0]))


if __name__ == "__main__":
    unittest.main()
