"""Points 30 to 34: discwright/chains.py."""

import random
import unittest

from discwright.blockdiscs import BlockDisc
from discwright.chains import chain_files, directory_faults, is_file_name, is_sound, make_chains, read_chain
from discwright.errors import DiscError, InvalidFiles, NoFileSystem
from tests.models import model_crc

SIZES = (16, 32, 64, 128, 256, 512)


def two(number):
    return [number // 256, number % 256]


def four(number):
    return two(number // 65536) + two(number % 65536)


def model_entry(name, first, length, check):
    return [ord(character) for character in name] + [32] * (8 - len(name)) + two(first) + four(length) + two(check)


def model_tables(count, size):
    """The least number of blocks that hold a table."""
    tables = 0
    while tables * size < 2 * count:
        tables += 1
    return tables


def model_made(files, count, size, directory):
    """Points 30, 31 and 33: the blocks of a disc."""
    tables = model_tables(count, size)
    first = 1 + tables + tables + directory
    table = {index: 65535 for index in range(first)}
    entries, data = [], []
    at = first
    for name, values in files:
        needed = len(values) // size + (1 if len(values) % size else 0)
        entries += model_entry(name, at if needed else 0, len(values), model_crc(values))
        for index in range(at, at + needed):
            table[index] = index + 1
        if needed:
            table[at + needed - 1] = 1
        data += values + [0] * (needed * size - len(values))
        at += needed
    numbers = []
    for index in range(count):
        numbers += two(table.get(index, 0))
    numbers += [0] * (tables * size - len(numbers))
    values = [67, 72] + two(count) + [tables, directory] + [0] * (size - 6) + numbers + numbers
    values += entries + [0] * (directory * size - len(entries)) + data
    values += [0] * (count * size - len(values))
    return [values[start:start + size] for start in range(0, len(values), size)]


def blocks_of(disc):
    return [disc.block(index) for index in range(len(disc))]


def model_entry_of_table(blocks, tables, size, index):
    """The first copy of an entry that is there, or None."""
    for copy in (0, 1):
        block = blocks[1 + copy * tables + 2 * index // size]
        if block is not None:
            return 256 * block[2 * index % size] + block[2 * index % size + 1]
    return None


def model_directory(disc):
    """Point 34: the entries that are not bad, and the numbers of the bad ones."""
    blocks, size = blocks_of(disc), disc.size
    tables, directory = blocks[0][4], blocks[0][5]
    entries, bad, number = [], [], -1
    for block in blocks[1 + 2 * tables:1 + 2 * tables + directory]:
        for at in range(0, size, 16):
            number += 1
            if block is None:
                continue
            if block[at] == 0:
                return entries, bad
            text = "".join(chr(code) for code in block[at:at + 8])
            name = text.rstrip(" ")
            first, length = 256 * block[at + 8] + block[at + 9], 0
            for value in block[at + 10:at + 14]:
                length = 256 * length + value
            check = 256 * block[at + 14] + block[at + 15]
            formed = name != "" and all(character in "ABCDEFGHIJKLMNOPQRSTUVWXYZ0123456789" for character in name)
            if formed and name not in [entry[0] for entry in entries] and length <= len(disc) * size:
                entries.append((name, first, length, check))
            else:
                bad.append(number)
    return entries, bad


def model_runs(damaged):
    """The runs of bytes for which True stands."""
    runs = []
    for at, wrong in enumerate(damaged):
        if wrong and at and damaged[at - 1]:
            runs[-1] = (runs[-1][0], runs[-1][1] + 1)
        elif wrong:
            runs.append((at, 1))
    return runs


def model_read(disc, entry):
    """Point 34: what is read of a file."""
    blocks, size = blocks_of(disc), disc.size
    tables, directory = blocks[0][4], blocks[0][5]
    name, index, length, check = entry
    values, damaged, met, reason = [], [], [], ""
    for start in range(0, length, size):
        count = min(size, length - start)
        if reason == "":
            if index is None:
                reason = "lost entry"
            elif index < 1 + 2 * tables + directory or index >= len(disc):
                reason = "bad chain"
            elif index in met:
                reason = "loop"
        if reason == "" and blocks[index] is not None:
            values += blocks[index][:count]
            damaged += [False] * count
        else:
            values += [0] * count
            damaged += [True] * count
        if reason == "":
            met.append(index)
            index = model_entry_of_table(blocks, tables, size, index)
    if reason == "" and index is None:
        reason = "lost entry"
    elif reason == "" and index != (1 if length else 0):
        reason = "too long"
    whole = True not in damaged and reason == "" and model_crc(values) == check
    return values, model_runs(damaged), reason, whole


def edited(disc, index, offset, values):
    """The disc with other bytes in a block."""
    block = disc.block(index)
    block[offset:offset + len(values)] = values
    return disc.with_block(index, block)


def without(disc, *indexes):
    for index in indexes:
        disc = disc.with_block(index, None)
    return disc


def any_files(source, count, most):
    names = [f"F{number}" for number in range(count)]
    return [(name, [source.randrange(256) for _ in range(source.randrange(most + 1))]) for name in names]


class ChainsTest(unittest.TestCase):

    def refused(self, error, call, *args):
        with self.assertRaises(DiscError) as caught:
            call(*args)
        self.assertIs(type(caught.exception), error)

    def no_file_system(self, disc):
        self.refused(NoFileSystem, chain_files, disc)
        self.refused(NoFileSystem, read_chain, disc, "ONE")
        self.refused(NoFileSystem, read_chain, disc, "NONE")
        self.refused(NoFileSystem, directory_faults, disc)
        self.assertIs(is_sound(disc), False)


class NamesTest(ChainsTest):

    def test_names(self):
        for name in ("A", "Z", "0", "9", "ABCDEFGH", "A1B2C3D4", "00000000", "Q"):
            self.assertIs(is_file_name(name), True, name)

    def test_others(self):
        for name in ("", "ABCDEFGHI", "123456789", "a", "Ab", "A B", " A", "A ", "A.B", "A-", "_", "@", "%", "A\n"):
            self.assertIs(is_file_name(name), False, name)

    def test_each_character(self):
        allowed = "ABCDEFGHIJKLMNOPQRSTUVWXYZ0123456789"
        for code in range(128):
            for text in (chr(code), "A" + chr(code), chr(code) + "A"):
                self.assertIs(is_file_name(text), chr(code) in allowed, code)


class MakingTest(ChainsTest):

    def made(self, files, count, size, directory):
        disc = make_chains(files, count, size, directory)
        self.assertIs(type(disc), BlockDisc)
        self.assertEqual(blocks_of(disc), model_made(files, count, size, directory))
        self.assertIs(is_sound(disc), True)
        self.assertEqual(chain_files(disc), [name for name, _ in files])
        self.assertEqual(directory_faults(disc), ([], []))
        for name, values in files:
            self.assertEqual(read_chain(disc, name), (values, [], "", True))
        return disc

    def test_number_by_number(self):
        disc = self.made([("ONE", list(range(20))), ("E", []), ("TWO2", [9])], 12, 32, 2)
        self.assertEqual(disc.block(0), [67, 72, 0, 12, 1, 2] + [0] * 26)
        table = [255] * 10 + [0, 1, 0, 1] + [0] * 18
        self.assertEqual([disc.block(1), disc.block(2)], [table, table])
        self.assertEqual(disc.block(3)[:16],
                         [79, 78, 69, 32, 32, 32, 32, 32, 0, 5, 0, 0, 0, 20] + two(model_crc(list(range(20)))))
        self.assertEqual(disc.block(3)[16:], [69] + [32] * 7 + [0, 0, 0, 0, 0, 0, 255, 255])
        self.assertEqual(disc.block(4)[:14], [84, 87, 79, 50, 32, 32, 32, 32, 0, 6, 0, 0, 0, 1])
        self.assertEqual(disc.block(4)[14:], two(model_crc([9])) + [0] * 16)
        self.assertEqual(disc.block(5), list(range(20)) + [0] * 12)
        self.assertEqual(disc.block(6), [9] + [0] * 31)
        self.assertEqual([disc.block(index) for index in range(7, 12)], [[0] * 32] * 5)

    def test_chains_number_by_number(self):
        disc = self.made([("A", [5] * 33), ("B", [6] * 16)], 12, 16, 2)
        self.assertEqual(disc.block(0)[:6], [67, 72, 0, 12, 2, 2])
        self.assertEqual(disc.block(1) + disc.block(2), [255] * 14 + [0, 8, 0, 9, 0, 1, 0, 1, 0, 0] + [0] * 8)
        self.assertEqual(disc.block(3) + disc.block(4), disc.block(1) + disc.block(2))
        self.assertEqual([disc.block(5)[8:14], disc.block(6)[8:14]], [[0, 7, 0, 0, 0, 33], [0, 10, 0, 0, 0, 16]])
        self.assertEqual([disc.block(index) for index in range(7, 12)],
                         [[5] * 16, [5] * 16, [5] + [0] * 15, [6] * 16, [0] * 16])

    def test_no_files(self):
        for size in SIZES:
            self.made([], 60, size, 3)
        self.assertEqual(chain_files(make_chains([], 4, 16, 1)), [])

    def test_each_size(self):
        source = random.Random(30)
        for size in SIZES:
            self.made(any_files(source, 6, 3 * size), 40, size, 6)

    def test_lengths_about_whole_blocks(self):
        for size in (16, 64):
            for length in (0, 1, size - 1, size, size + 1, 2 * size - 1, 2 * size, 2 * size + 1, 7 * size):
                self.made([("A", [at % 256 for at in range(length)]), ("B", [3])], 24, size, 2)

    def test_the_least_number_of_blocks_of_the_table(self):
        for size in SIZES:
            for count in (size // 2, size // 2 + 1, size, size + 1):
                if 4 <= count <= 2000:
                    disc = self.made([], count + 2, size, 1)
                    self.assertEqual(disc.block(0)[4], -(-(count + 2) * 2 // size))
        self.assertEqual(make_chains([], 8, 16, 1).block(0)[4], 1)
        self.assertEqual(make_chains([], 9, 16, 1).block(0)[4], 2)
        self.assertEqual(make_chains([], 2000, 16, 1).block(0)[4], 250)
        self.assertEqual(make_chains([], 2000, 512, 1).block(0)[4], 8)

    def test_any_files(self):
        source = random.Random(33)
        for _ in range(40):
            size = source.choice(SIZES)
            self.made(any_files(source, source.randrange(5), 5 * size), source.randrange(50, 70), size, 5)

    def test_numbers_of_blocks(self):
        for count in (3, 0, -5, 2001, 10 ** 20):
            self.refused(InvalidFiles, make_chains, [], count, 16, 1)
            self.refused(InvalidFiles, make_chains, [], count, 512, 1)
        self.assertEqual(len(self.made([], 4, 512, 1)), 4)
        self.assertEqual(len(self.made([("A", [1])], 2000, 16, 1)), 2000)
        self.assertEqual(len(self.made([("A", [1])], 2000, 512, 20)), 2000)

    def test_sizes(self):
        for size in (0, 8, 15, 17, 24, 48, 1024, -16):
            self.refused(InvalidFiles, make_chains, [], 100, size, 1)

    def test_numbers_of_blocks_of_the_directory(self):
        for directory in (0, -1, 21, 10 ** 20):
            self.refused(InvalidFiles, make_chains, [], 100, 16, directory)
            self.refused(InvalidFiles, make_chains, [], 100, 512, directory)
        for directory in (1, 20):
            self.assertEqual(self.made([], 100, 64, directory).block(0)[5], directory)

    def test_names(self):
        self.made([("A", [1]), ("ABCDEFGH", [2]), ("12345678", [3]), ("0", [])], 20, 64, 1)
        for name in ("", "ABCDEFGHI", "a", "Ab", "A B", " ", "A "):
            self.refused(InvalidFiles, make_chains, [(name, [1])], 20, 64, 1)
            self.refused(InvalidFiles, make_chains, [("X", [1]), (name, []), ("Y", [2])], 20, 64, 1)

    def test_names_that_stand_twice(self):
        self.refused(InvalidFiles, make_chains, [("A", [1]), ("A", [1])], 20, 64, 1)
        self.refused(InvalidFiles, make_chains, [("A", []), ("B", [1]), ("A", [2])], 20, 64, 1)

    def test_room_in_the_directory(self):
        for size, directory in ((32, 1), (32, 3), (64, 2), (512, 1), (16, 5), (16, 20)):
            room = size // 16 * directory
            names = [(f"N{number}", []) for number in range(room + 1)]
            self.made(names[:room], 60, size, directory)
            self.refused(InvalidFiles, make_chains, names, 60, size, directory)
            self.refused(InvalidFiles, make_chains, [(name, [1]) for name, _ in names], 400, size, directory)

    def test_room_in_the_data_blocks(self):
        for size, count, directory in ((16, 30, 3), (32, 40, 2), (64, 20, 1)):
            room = count - 1 - 2 * model_tables(count, size) - directory
            full = [1] * (room * size)
            self.made([("A", full)], count, size, directory)
            self.made([("A", full[:-size]), ("B", []), ("C", [2])], count, size, directory)
            self.made([("A", full), ("B", [])], count, size, directory)
            self.refused(InvalidFiles, make_chains, [("A", full + [1])], count, size, directory)
            self.refused(InvalidFiles, make_chains, [("A", full), ("B", [1])], count, size, directory)
            files = [("A", full[:-size]), ("B", [2] * (size + 1))]
            self.refused(InvalidFiles, make_chains, files, count, size, directory)

    def test_no_room_for_data(self):
        self.made([], 4, 16, 1)
        self.made([("A", [])], 4, 16, 1)
        self.refused(InvalidFiles, make_chains, [("A", [1])], 4, 16, 1)
        self.made([("A", [1])], 5, 16, 1)

    def test_no_room_for_the_directory(self):
        self.refused(InvalidFiles, make_chains, [], 4, 16, 2)
        self.refused(InvalidFiles, make_chains, [], 20, 16, 20)
        self.made([], 6, 16, 3)
        self.refused(InvalidFiles, make_chains, [], 6, 16, 4)

    def test_long_files(self):
        values = [at * 7 % 256 for at in range(60001)]
        self.made([("A", values[:60000])], 200, 512, 1)
        self.refused(InvalidFiles, make_chains, [("A", values)], 2000, 512, 1)
        self.refused(InvalidFiles, make_chains, [("B", [1]), ("A", values)], 2000, 512, 1)

    def test_the_files_and_lists_stay(self):
        values = [1, 2, 3]
        files = [("A", values), ("B", [])]
        disc = make_chains(files, 10, 32, 1)
        self.assertEqual([files, values], [[("A", [1, 2, 3]), ("B", [])], [1, 2, 3]])
        values.append(9)
        files.append(("C", []))
        self.assertEqual([chain_files(disc), read_chain(disc, "A")[0]], [["A", "B"], [1, 2, 3]])


# Blocks 0 head, 1 and 2 table, 3 and 4 second copy, 5 and 6 directory, 7 to 9 ONE, 10 and 11 TWO, 12 to 15 free.
ONE = list(range(1, 41))
TWO = [200] * 32
FILES = [("ONE", ONE), ("TWO", TWO)]
DISC = make_chains(FILES, 16, 16, 2)


def with_table(numbers, disc=DISC, copies=(0, 1)):
    """A disc of 16 blocks of 16 bytes with other entries of the table."""
    for index, number in numbers.items():
        for copy in copies:
            disc = edited(disc, 1 + 2 * copy + index // 8, 2 * (index % 8), two(number))
    return disc


class HeadTest(ChainsTest):

    def test_a_missing_head(self):
        self.no_file_system(DISC.with_block(0, None))

    def test_each_byte_of_the_head(self):
        for at in range(16):
            for more in (1, 2, 100, 255):
                if at != 5:
                    value = (DISC.block(0)[at] + more) % 256
                    self.no_file_system(edited(DISC, 0, at, [value]))

    def test_bytes_behind_the_numbers_of_a_large_head(self):
        disc = make_chains([("ONE", [1])], 10, 512, 1)
        for at in (6, 7, 100, 511):
            self.no_file_system(edited(disc, 0, at, [1]))

    def test_the_number_of_blocks_of_the_directory(self):
        for directory in (0, 21, 12, 255):
            self.no_file_system(edited(DISC, 0, 5, [directory]))
        self.assertEqual(chain_files(edited(DISC, 0, 5, [1])), ["ONE"])
        disc = make_chains([("ONE", [1])], 100, 32, 3)
        self.no_file_system(edited(disc, 0, 5, [21]))
        self.assertEqual(chain_files(edited(disc, 0, 5, [20])), ["ONE"])

    def test_a_directory_beyond_the_end(self):
        disc = make_chains([], 6, 16, 1)
        self.assertEqual(chain_files(edited(disc, 0, 5, [3])), [])
        self.no_file_system(edited(disc, 0, 5, [4]))
        self.assertEqual(chain_files(edited(DISC, 0, 5, [11]))[:2], ["ONE", "TWO"])
        self.no_file_system(edited(DISC, 0, 5, [12]))

    def test_discs_without_a_file_system(self):
        for blocks in ([[0] * 16] * 8, [[1] * 16], [[67, 72] + [0] * 14], [[67, 72, 0, 3, 1, 1] + [0] * 10] * 3,
                       [[69, 88, 0, 8, 1] + [0] * 27] * 8, [None, [1] * 16]):
            self.no_file_system(BlockDisc(blocks))

    def test_a_part_of_a_disc(self):
        self.no_file_system(BlockDisc(blocks_of(DISC)[:15]))
        self.no_file_system(BlockDisc(blocks_of(DISC) + [[0] * 16]))


class TableTest(ChainsTest):

    def test_one_copy_missing(self):
        for indexes in ((1,), (2,), (3,), (4,), (1, 2), (3, 4), (1, 4), (2, 3)):
            disc = without(DISC, *indexes)
            self.assertEqual(read_chain(disc, "ONE"), (ONE, [], "", True))
            self.assertEqual(read_chain(disc, "TWO"), (TWO, [], "", True))

    def test_the_first_copy_is_taken(self):
        disc = with_table({7: 0, 8: 0, 10: 0}, copies=(1,))
        self.assertEqual(read_chain(disc, "ONE"), (ONE, [], "", True))
        self.assertEqual(read_chain(disc, "TWO"), (TWO, [], "", True))
        disc = with_table({10: 0}, copies=(0,))
        self.assertEqual(read_chain(disc, "TWO"), (TWO[:16] + [0] * 16, [(16, 16)], "bad chain", False))

    def test_the_second_copy_is_taken_where_the_first_one_is_missing(self):
        disc = with_table({10: 0}, copies=(0,))
        self.assertEqual(read_chain(without(disc, 2), "TWO"), (TWO, [], "", True))
        self.assertEqual(read_chain(without(disc, 1), "TWO")[2], "bad chain")
        disc = with_table({10: 0}, copies=(1,))
        self.assertEqual(read_chain(without(disc, 2), "TWO")[2], "bad chain")

    def test_both_copies_missing(self):
        disc = without(DISC, 2, 4)
        self.assertEqual(read_chain(disc, "ONE"), (ONE[:32] + [0] * 8, [(32, 8)], "lost entry", False))
        self.assertEqual(read_chain(disc, "TWO"), (TWO[:16] + [0] * 16, [(16, 16)], "lost entry", False))
        disc = without(DISC, 1, 3)
        self.assertEqual(read_chain(disc, "ONE"), (ONE[:16] + [0] * 24, [(16, 24)], "lost entry", False))
        self.assertEqual(read_chain(disc, "TWO"), (TWO, [], "", True))

    def test_the_entry_of_the_last_block_lost(self):
        disc = make_chains([("A", [5] * 16)], 12, 16, 1)
        self.assertEqual(read_chain(without(disc, 1, 3), "A"), ([5] * 16, [], "lost entry", False))
        disc = make_chains([("A", [5] * 48)], 12, 16, 1)
        self.assertEqual(read_chain(without(disc, 2, 4), "A"), ([5] * 48, [], "lost entry", False))


class DirectoryTest(ChainsTest):

    DISC = make_chains([(f"F{number}", [number] * 20) for number in range(7)], 60, 32, 6)
    # Blocks 0 head, 1 to 8 tables, 9 to 14 directory: F0 F1, F2 F3, F4 F5, F6 and a free one, two free blocks.

    def test_missing_blocks(self):
        self.assertEqual(self.DISC.block(9)[:2], [70, 48])
        for lost, names in (
            ([9], ["F2", "F3", "F4", "F5", "F6"]), ([10], ["F0", "F1", "F4", "F5", "F6"]), ([9, 10, 11], ["F6"]),
            ([12], ["F0", "F1", "F2", "F3", "F4", "F5"]), ([9, 12], ["F2", "F3", "F4", "F5"]),
            ([9, 10, 11, 12, 13, 14], []),
        ):
            disc = without(self.DISC, *lost)
            self.assertEqual(directory_faults(disc), (lost, []))
            self.assertEqual(chain_files(disc), names)
            for number in range(7):
                name = f"F{number}"
                if name in names:
                    self.assertEqual(read_chain(disc, name), ([number] * 20, [], "", True))
                else:
                    self.refused(InvalidFiles, read_chain, disc, name)

    def test_missing_blocks_behind_a_free_entry(self):
        for lost in ([13], [14], [13, 14]):
            disc = without(self.DISC, *lost)
            self.assertEqual(directory_faults(disc), (lost, []))
            self.assertEqual(len(chain_files(disc)), 7)
        disc = without(self.DISC, 9, 14)
        self.assertEqual([directory_faults(disc), chain_files(disc)], [([9, 14], []), ["F2", "F3", "F4", "F5", "F6"]])

    def test_other_missing_blocks_are_not_told(self):
        self.assertEqual(directory_faults(without(self.DISC, 1, 5, 8, 15, 59)), ([], []))

    def test_entries_behind_a_free_one_are_not_looked_at(self):
        disc = edited(self.DISC, 10, 0, [0])
        self.assertEqual([chain_files(disc), directory_faults(disc)], [["F0", "F1"], ([], [])])
        disc = edited(edited(self.DISC, 10, 16, [0]), 11, 0, [97])
        self.assertEqual([chain_files(disc), directory_faults(disc)], [["F0", "F1", "F2"], ([], [])])
        disc = edited(self.DISC, 9, 0, [0])
        self.assertEqual([chain_files(disc), directory_faults(disc)], [[], ([], [])])
        disc = edited(self.DISC, 13, 0, [97] * 16)
        self.assertEqual([len(chain_files(disc)), directory_faults(disc)], [7, ([], [])])

    def test_a_free_entry_in_a_missing_block_ends_nothing(self):
        disc = edited(self.DISC, 13, 0, model_entry("LATE", 0, 0, 65535))
        self.assertEqual(chain_files(disc), ["F0", "F1", "F2", "F3", "F4", "F5", "F6"])
        self.assertEqual(chain_files(without(disc, 12)), ["F0", "F1", "F2", "F3", "F4", "F5", "LATE"])

    def bad_at(self, number, entry):
        """The disc with another entry with a number: it alone is bad."""
        disc = edited(self.DISC, 9 + number // 2, 16 * (number % 2), entry)
        self.assertEqual(directory_faults(disc), ([], [number]))
        self.assertEqual(chain_files(disc), [f"F{other}" for other in range(7) if other != number])
        self.assertIs(is_sound(disc), False)

    def test_names_that_are_not_allowed(self):
        for codes in (
            [32] * 8, [32, 65] + [32] * 6, [65, 32, 66] + [32] * 5, [97] + [32] * 7, [65, 97] + [32] * 6,
            [65, 0] + [32] * 6, [65] * 7 + [0], [65, 0, 0, 0, 0, 0, 0, 0], [65, 46] + [32] * 6, [65] * 7 + [97],
            [65, 66, 32, 32, 32, 32, 32, 67], [200] + [32] * 7, [255] * 8, [65, 37] + [32] * 6, [1] + [32] * 7,
            [47] + [32] * 7, [58] + [32] * 7, [64] + [32] * 7, [91] + [32] * 7,
        ):
            for number in (0, 1, 3, 6):
                self.bad_at(number, codes)

    def test_names_that_are_allowed(self):
        for codes, name in (([65] * 8, "AAAAAAAA"), ([90, 57] + [32] * 6, "Z9"), ([48] + [32] * 7, "0")):
            disc = edited(self.DISC, 10, 0, codes)
            self.assertEqual(chain_files(disc), ["F0", "F1", name, "F3", "F4", "F5", "F6"])
            self.assertEqual(directory_faults(disc), ([], []))

    def test_the_name_of_an_entry_before_it(self):
        self.bad_at(1, [70, 48] + [32] * 6)
        self.bad_at(6, [70, 48] + [32] * 6)
        self.bad_at(5, [70, 52] + [32] * 6)

    def test_the_name_of_a_bad_entry_before_it(self):
        long = four(60 * 32 + 1)
        disc = edited(edited(self.DISC, 9, 10, long), 10, 0, [70, 48])
        self.assertEqual(chain_files(disc), ["F1", "F0", "F3", "F4", "F5", "F6"])
        self.assertEqual(directory_faults(disc), ([], [0]))
        self.assertEqual(read_chain(disc, "F0")[0], [2] * 20)

    def test_a_name_that_stands_three_times(self):
        disc = edited(edited(self.DISC, 10, 0, [70, 48]), 12, 0, [70, 48])
        self.assertEqual([chain_files(disc), directory_faults(disc)], [["F0", "F1", "F3", "F4", "F5"], ([], [2, 6])])
        self.assertEqual(read_chain(disc, "F0")[0], [0] * 20)

    def test_a_name_of_an_entry_in_a_missing_block(self):
        disc = without(edited(self.DISC, 10, 0, [70, 48]), 9)
        self.assertEqual([chain_files(disc), directory_faults(disc)], [["F0", "F3", "F4", "F5", "F6"], ([9], [])])

    def test_lengths(self):
        for number in (0, 3):
            for length in (60 * 32 + 1, 65536, 2 ** 32 - 1):
                entry = self.DISC.block(9 + number // 2)[16 * (number % 2):16 * (number % 2) + 16]
                self.bad_at(number, entry[:10] + four(length) + entry[14:])
        disc = edited(self.DISC, 9, 10, four(60 * 32))
        self.assertEqual([directory_faults(disc), len(chain_files(disc))], [([], []), 7])
        self.assertEqual(len(read_chain(disc, "F0")[0]), 60 * 32)

    def test_numbers_are_counted_over_the_whole_directory(self):
        disc = edited(edited(without(self.DISC, 9), 10, 16, [97]), 12, 0, [97])
        self.assertEqual([directory_faults(disc), chain_files(disc)], [([9], [3, 6]), ["F2", "F4", "F5"]])

    def test_several_bad_entries(self):
        disc = self.DISC
        for index in (9, 10, 11):
            disc = edited(edited(disc, index, 0, [97]), index, 16, [97])
        self.assertEqual([directory_faults(disc), chain_files(disc)], [([], [0, 1, 2, 3, 4, 5]), ["F6"]])

    def test_a_first_block_or_crc_makes_no_entry_bad(self):
        disc = edited(edited(self.DISC, 9, 8, [255, 255]), 9, 14, [1, 2])
        self.assertEqual([directory_faults(disc), len(chain_files(disc))], [([], []), 7])

    def test_the_kinds_of_values(self):
        told = directory_faults(self.DISC)
        self.assertEqual([type(told), type(told[0]), type(told[1])], [tuple, list, list])


def with_entry(number, first=None, length=None, check=None, disc=DISC):
    """The disc with another number in an entry of the directory."""
    for offset, values in ((8, first and two(first)), (10, length and four(length)), (14, check and two(check))):
        if values is not None:
            disc = edited(disc, 5 + number, offset, values)
    return disc


class ReadingTest(ChainsTest):

    def reads(self, disc, name, *wanted):
        told = read_chain(disc, name)
        self.assertEqual(told, wanted)
        self.assertEqual([type(told), type(told[0]), type(told[1]), type(told[3])], [tuple, list, list, bool])

    def test_names_that_are_not_there(self):
        for name in ("THREE", "", "one", "ONE ", "ON", "ONEE", "A LONG NAME"):
            self.refused(InvalidFiles, read_chain, DISC, name)

    def test_a_whole_file(self):
        self.reads(DISC, "ONE", ONE, [], "", True)
        self.reads(DISC, "TWO", TWO, [], "", True)

    def test_missing_blocks(self):
        self.reads(without(DISC, 7), "ONE", [0] * 16 + ONE[16:], [(0, 16)], "", False)
        self.reads(without(DISC, 8), "ONE", ONE[:16] + [0] * 16 + ONE[32:], [(16, 16)], "", False)
        self.reads(without(DISC, 9), "ONE", ONE[:32] + [0] * 8, [(32, 8)], "", False)
        self.reads(without(DISC, 7, 8), "ONE", [0] * 32 + ONE[32:], [(0, 32)], "", False)
        self.reads(without(DISC, 7, 9), "ONE", [0] * 16 + ONE[16:32] + [0] * 8, [(0, 16), (32, 8)], "", False)
        self.reads(without(DISC, 7, 8, 9), "ONE", [0] * 40, [(0, 40)], "", False)
        self.reads(without(DISC, 7, 8, 9, 12, 13, 14, 15), "TWO", TWO, [], "", True)

    def test_a_wrong_crc(self):
        self.reads(edited(DISC, 8, 3, [99]), "ONE", ONE[:19] + [99] + ONE[20:], [], "", False)
        self.reads(with_entry(0, check=5), "ONE", ONE, [], "", False)

    def test_bytes_behind_the_end(self):
        self.reads(edited(DISC, 9, 8, [7] * 8), "ONE", ONE, [], "", True)
        self.reads(edited(DISC, 9, 7, [7]), "ONE", ONE[:39] + [7], [], "", False)

    def test_a_missing_block_whose_bytes_were_0(self):
        disc = make_chains([("Z", [0] * 32)], 12, 16, 1)
        self.reads(without(disc, 6), "Z", [0] * 32, [(0, 16)], "", False)

    def test_bad_chains(self):
        for number in (0, 1, 2, 5, 6, 16, 17, 65535, 32768):
            self.reads(with_table({7: number}), "ONE", ONE[:16] + [0] * 24, [(16, 24)], "bad chain", False)
            self.reads(with_table({8: number}), "ONE", ONE[:32] + [0] * 8, [(32, 8)], "bad chain", False)
            disc = edited(DISC, 5, 8, two(number))
            self.reads(disc, "ONE", [0] * 40, [(0, 40)], "bad chain", False)

    def test_data_blocks_of_others_and_free_ones(self):
        self.reads(with_table({8: 15, 15: 1}), "ONE", ONE[:32] + [0] * 8, [], "", False)
        self.reads(with_table({8: 11}), "ONE", ONE[:32] + [200] * 8, [], "", False)
        self.reads(with_entry(0, first=10), "ONE", [200] * 32 + [0] * 8, [(32, 8)], "bad chain", False)

    def test_loops(self):
        self.reads(with_table({7: 7}), "ONE", ONE[:16] + [0] * 24, [(16, 24)], "loop", False)
        self.reads(with_table({8: 7}), "ONE", ONE[:32] + [0] * 8, [(32, 8)], "loop", False)
        self.reads(with_table({8: 8}), "ONE", ONE[:32] + [0] * 8, [(32, 8)], "loop", False)

    def test_a_loop_behind_the_last_block(self):
        for number in (7, 8, 9):
            self.reads(with_table({9: number}), "ONE", ONE, [], "too long", False)

    def test_too_long(self):
        for number in (0, 2, 12, 15, 16, 65535):
            self.reads(with_table({9: number}), "ONE", ONE, [], "too long", False)
        self.reads(with_entry(0, length=32), "ONE", ONE[:32], [], "too long", False)
        self.reads(with_entry(0, length=1), "ONE", ONE[:1], [], "too long", False)

    def test_too_short(self):
        self.reads(with_entry(0, length=49), "ONE", ONE + [0] * 9, [(48, 1)], "bad chain", False)
        self.reads(with_entry(0, length=48), "ONE", ONE + [0] * 8, [], "", False)
        self.reads(with_entry(0, length=256), "ONE", ONE + [0] * 216, [(48, 208)], "bad chain", False)

    def test_lost_entries(self):
        # With 8 entries in a block of the table, the entries 0 to 7 are lost, or those from 8 on.
        self.reads(without(DISC, 1, 3), "ONE", ONE[:16] + [0] * 24, [(16, 24)], "lost entry", False)
        self.reads(without(DISC, 2, 4), "ONE", ONE[:32] + [0] * 8, [(32, 8)], "lost entry", False)
        self.reads(without(DISC, 2, 4), "TWO", TWO[:16] + [0] * 16, [(16, 16)], "lost entry", False)
        self.reads(without(with_table({7: 9, 9: 8}), 2, 4), "ONE", ONE[:16] + ONE[32:] + [0] * 16, [(32, 8)],
                   "lost entry", False)

    def test_a_lost_entry_behind_the_last_block(self):
        disc = with_entry(0, length=16)
        self.reads(without(disc, 1, 3), "ONE", ONE[:16], [], "lost entry", False)
        self.reads(disc, "ONE", ONE[:16], [], "too long", False)

    def test_the_entry_of_a_missing_block_is_followed(self):
        self.reads(without(with_table({7: 7}), 7), "ONE", [0] * 40, [(0, 40)], "loop", False)
        self.reads(without(with_table({9: 5}), 9), "ONE", ONE[:32] + [0] * 8, [(32, 8)], "too long", False)

    def test_reasons_with_missing_blocks(self):
        self.reads(without(with_table({8: 0}), 8), "ONE", ONE[:16] + [0] * 24, [(16, 24)], "bad chain", False)
        self.reads(without(with_table({8: 0}), 7), "ONE", [0] * 16 + ONE[16:32] + [0] * 8, [(0, 16), (32, 8)],
                   "bad chain", False)
        self.reads(without(DISC, 7, 2, 4), "ONE", [0] * 16 + ONE[16:32] + [0] * 8, [(0, 16), (32, 8)], "lost entry",
                   False)

    def test_an_empty_file(self):
        disc = make_chains([("E", []), ("A", [1])], 12, 32, 1)
        self.reads(disc, "E", [], [], "", True)
        for first in (1, 2, 4, 7, 11, 12, 65535):
            self.reads(edited(disc, 3, 8, two(first)), "E", [], [], "too long", False)
        self.reads(edited(disc, 3, 14, [0, 0]), "E", [], [], "", False)
        self.reads(without(disc, 1, 2), "E", [], [], "", True)

    def test_an_empty_file_that_tells_a_length(self):
        disc = make_chains([("E", [])], 12, 16, 1)
        self.reads(edited(disc, 5, 10, four(20)), "E", [0] * 20, [(0, 20)], "bad chain", False)

    def test_the_last_block_of_the_disc(self):
        disc = make_chains([("A", [3] * 16 * 10)], 16, 16, 1)
        self.assertEqual(disc.block(15), [3] * 16)
        self.reads(disc, "A", [3] * 160, [], "", True)
        self.reads(without(disc, 15), "A", [3] * 144 + [0] * 16, [(144, 16)], "", False)

    def test_any_damage(self):
        source = random.Random(34)
        reasons = {}
        for _ in range(1500):
            disc = DISC
            for _ in range(source.randrange(1, 4)):
                kind = source.randrange(4)
                if kind == 0:
                    lost = source.choice([[index] for index in range(5, 12)] + [[1], [2], [1, 3], [2, 4], [2, 3]])
                    disc = without(disc, *lost)
                elif kind == 1:
                    disc = self.with_changed_table(disc, source)
                elif kind == 2 and disc.block(5) is not None:
                    first, length = source.randrange(18), source.randrange(300)
                    disc = edited(disc, 5, 8, two(first) + four(length))
                elif kind == 3 and disc.block(6) is not None:
                    disc = edited(disc, 6, source.randrange(8, 16), [source.randrange(17)])
            entries, bad = model_directory(disc)
            self.assertEqual(chain_files(disc), [entry[0] for entry in entries])
            missing = [index for index in (5, 6) if disc.block(index) is None]
            self.assertEqual(directory_faults(disc), (missing, bad))
            for entry in entries:
                told = read_chain(disc, entry[0])
                self.assertEqual(told, model_read(disc, entry))
                reasons[told[2]] = True
        self.assertEqual(sorted(reasons), ["", "bad chain", "loop", "lost entry", "too long"])

    def with_changed_table(self, disc, source):
        at, number = source.randrange(7, 12), source.choice((0, 1, 5, 7, 8, 9, 10, 11, 12, 15, 16))
        for index in (1 + at // 8, 3 + at // 8):
            if disc.block(index) is not None:
                disc = edited(disc, index, 2 * (at % 8), two(number))
        return disc

    def test_the_disc_stays(self):
        blocks = blocks_of(DISC)
        disc = without(DISC, 8)
        read_chain(disc, "ONE")[0].append(5)
        directory_faults(disc)[0].append(5)
        chain_files(disc).append("X")
        is_sound(disc)
        self.assertEqual(blocks_of(DISC), blocks)
        self.assertEqual(chain_files(disc), ["ONE", "TWO"])


class SoundTest(ChainsTest):

    def sound(self, disc):
        self.assertIs(is_sound(disc), True)

    def unsound(self, disc):
        self.assertIs(is_sound(disc), False)

    def test_made_discs(self):
        self.sound(DISC)

    def test_each_missing_block(self):
        for index in range(16):
            self.unsound(DISC.with_block(index, None))

    def test_copies_of_the_table_that_differ(self):
        for index in range(16):
            for copy in (0, 1):
                self.unsound(with_table({index: 500 + index}, copies=(copy,)))

    def test_entries_before_the_data_blocks(self):
        for index in range(7):
            for number in (0, 1, 12, 65534):
                self.unsound(with_table({index: number}))

    def test_data_blocks_that_are_not_free(self):
        for index in range(12, 16):
            for number in (1, 2, 13, 65535):
                self.unsound(with_table({index: number}))

    def test_bytes_behind_the_entries_of_the_table(self):
        disc = make_chains(FILES, 20, 16, 2)
        self.sound(disc)
        for offset in (8, 9, 15):
            self.unsound(edited(edited(disc, 3, offset, [1]), 6, offset, [1]))
            self.unsound(edited(disc, 6, offset, [1]))

    def test_chains(self):
        for numbers in ({9: 12}, {9: 0}, {9: 65535}, {8: 1}, {8: 9, 9: 8}, {7: 9, 9: 1, 8: 0}, {9: 10}, {8: 11}):
            self.unsound(with_table(numbers))

    def test_a_chain_in_another_order(self):
        disc = with_table({7: 15, 15: 9, 8: 0})
        self.unsound(disc)
        self.sound(disc.with_block(15, ONE[16:32]))
        swapped = with_entry(0, first=9, disc=with_table({9: 8, 8: 7, 7: 1}))
        self.unsound(swapped)
        self.sound(swapped.with_block(9, ONE[:16]).with_block(7, ONE[32:] + [3] * 8))

    def test_blocks_of_two_files(self):
        files = [("ONE", [4] * 16), ("TWO", [4] * 16)]
        disc = make_chains(files, 16, 16, 2)
        self.sound(disc)
        both = edited(disc, 6, 8, two(7))
        self.assertEqual([read_chain(both, name)[3] for name in ("ONE", "TWO")], [True, True])
        self.unsound(both)
        self.unsound(with_table({8: 0}, disc=both))

    def test_chains_that_meet(self):
        files = [("ONE", [4] * 16 + [5] * 16), ("TWO", [6] * 16 + [5] * 16)]
        disc = make_chains(files, 16, 16, 2)
        meeting = with_table({9: 8, 10: 0}, disc=disc)
        self.assertEqual([read_chain(meeting, name)[3] for name in ("ONE", "TWO")], [True, True])
        self.unsound(meeting)

    def test_a_wrong_crc(self):
        self.unsound(with_entry(0, check=5))
        self.unsound(edited(DISC, 8, 0, [0]))

    def test_bytes_behind_the_end_of_a_file(self):
        self.sound(edited(DISC, 9, 8, [1, 2, 3, 4, 5, 6, 7, 8]))
        self.sound(DISC.with_block(13, [9] * 16))

    def test_bad_entries(self):
        self.unsound(edited(DISC, 6, 0, [97]))
        self.unsound(edited(DISC, 6, 0, [79, 78, 69]))

    def test_bad_entries_of_empty_files(self):
        """They have no blocks, so nothing else is wrong."""
        disc = make_chains([("A", [1]), ("E", []), ("F", [])], 12, 64, 1)
        self.sound(disc)
        self.unsound(edited(disc, 3, 16, [101]))
        self.unsound(edited(disc, 3, 32, [69]))

    def test_an_empty_file_with_a_first_block(self):
        disc = make_chains([("E", []), ("A", [1])], 12, 32, 1)
        self.sound(disc)
        for first in (1, 4, 6):
            self.unsound(edited(disc, 3, 8, two(first)))

    def test_a_file_that_is_not_listed(self):
        disc = edited(DISC, 6, 0, [0])
        self.unsound(disc)
        self.sound(with_table({10: 0, 11: 0}, disc=disc))

    def test_bytes_behind_a_free_entry(self):
        disc = make_chains(FILES, 20, 32, 2)
        self.sound(edited(disc, 6, 0, [0, 5, 6, 7]))
        self.sound(edited(disc, 6, 16, [97] * 16))

    def test_no_file_system(self):
        self.unsound(BlockDisc([[0] * 16] * 8))
        self.unsound(edited(DISC, 0, 5, [0]))


if __name__ == "__main__":
    unittest.main()
