"""Points 59 and 60: discwright/mending.py."""

import random
import unittest

from discwright.blockdiscs import BlockDisc
from discwright.chains import chain_files, directory_faults, is_sound, make_chains, read_chain
from discwright.errors import DiscError, NoFileSystem
from discwright.extents import make_extents
from discwright.mending import mended_chains
from tests.models import model_crc
from tests.test_chains import (
    any_files, blocks_of, edited, model_directory, model_entry, model_entry_of_table, model_tables, two, without,
)

# Blocks of 16 bytes: the head 0, the table 1 to 3 and 4 to 6 for 20 blocks, the directory 7 to 10, data 11 to 19.
ONE = list(range(1, 41))
TWO = list(range(50, 82))
THREE = [99] * 5
FILES = [("ONE", ONE), ("TWO", TWO), ("THREE", THREE)]
DISC = make_chains(FILES, 20, 16, 4)
FIRST = 11


def with_numbers(disc, numbers, copies=(0, 1)):
    """The disc with other numbers in the table, a dict, in the copies that are told."""
    for index, number in numbers.items():
        for copy in copies:
            block = 1 + copy * model_tables(len(disc), disc.size) + 2 * index // disc.size
            disc = edited(disc, block, 2 * index % disc.size, two(number))
    return disc


def with_entry(disc, number, *, name=None, first=None, length=None):
    """The disc with other parts of an entry of the directory."""
    block = 1 + 2 * model_tables(len(disc), disc.size) + number * 16 // disc.size
    offset = number * 16 % disc.size
    if name is not None:
        disc = edited(disc, block, offset, name)
    if first is not None:
        disc = edited(disc, block, offset + 8, two(first))
    if length is not None:
        disc = edited(disc, block, offset + 10, two(length // 65536) + two(length % 65536))
    return disc


def model_chain(disc, entry):
    """Point 34: the blocks of a file as far as its chain can be followed."""
    blocks, size = blocks_of(disc), disc.size
    tables, directory = blocks[0][4], blocks[0][5]
    chain, index = [], entry[1]
    while len(chain) * size < entry[2]:
        if index is None or index in chain or not 1 + 2 * tables + directory <= index < len(disc):
            break
        chain.append(index)
        index = model_entry_of_table(blocks, tables, size, index)
    return chain


def model_mended(disc):
    """Points 59 and 60: the blocks of the mended disc, and what is told."""
    blocks, size, count = blocks_of(disc), disc.size, len(disc)
    tables, directory = blocks[0][4], blocks[0][5]
    first = 1 + 2 * tables + directory
    numbers = [65535] * first + [0] * (count - first)
    kept, entries, told = [], [], []
    for entry in model_directory(disc)[0]:
        chain = []
        for index in model_chain(disc, entry):
            if index in kept:
                break
            chain.append(index)
        kept += chain
        for at, index in enumerate(chain):
            numbers[index] = (chain[1:] + [1])[at]
        length = min(entry[2], size * len(chain))
        values, lost = [], 0
        for at in range(length):
            block = blocks[chain[at // size]]
            values.append(0 if block is None else block[at % size])
            lost += 1 if block is None else 0
        entries += model_entry(entry[0], (chain + [0])[0], length, model_crc(values))
        told.append((entry[0], length - lost, entry[2] - length + lost))
    table = sum([two(number) for number in numbers], [])
    table += [0] * (tables * size - len(table))
    entries += [0] * (directory * size - len(entries))
    values = blocks[0] + table + table + entries
    mended = [values[at:at + size] for at in range(0, len(values), size)]
    return mended + [[0] * size if block is None else block for block in blocks[first:]], told


class MendingTest(unittest.TestCase):

    def mended(self, disc, told=None):
        """The mended disc, checked against the model and all that point 60 promises."""
        before = blocks_of(disc)
        better, tuples = mended_chains(disc)
        blocks, wanted = model_mended(disc)
        self.assertIs(type(better), BlockDisc)
        self.assertEqual([blocks_of(better), tuples], [blocks, wanted])
        if told is not None:
            self.assertEqual(tuples, told)
        self.assertEqual(blocks_of(disc), before)
        self.assertIs(is_sound(better), True)
        again, nothing = mended_chains(better)
        self.assertTrue(again == better)
        self.assertEqual([lost for _, _, lost in nothing], [0] * len(nothing))
        self.assertEqual(chain_files(better), [name for name, _, _ in tuples])
        return better

    def keeps(self, disc, better):
        """Each byte of a file that is told as not damaged is in the mended file, if it stands before the cut."""
        for name in chain_files(disc):
            values, runs, _, _ = read_chain(disc, name)
            mended = read_chain(better, name)[0]
            damaged = {at for offset, count in runs for at in range(offset, offset + count)}
            for at in range(len(mended)):
                if at not in damaged:
                    self.assertEqual(mended[at], values[at])

    def files_of(self, disc):
        return [(name, read_chain(disc, name)[0]) for name in chain_files(disc)]

    def no_file_system(self, disc):
        with self.assertRaises(DiscError) as caught:
            mended_chains(disc)
        self.assertIs(type(caught.exception), NoFileSystem)


class UndamagedTest(MendingTest):

    def test_nothing_changes(self):
        self.assertTrue(self.mended(DISC, [("ONE", 40, 0), ("TWO", 32, 0), ("THREE", 5, 0)]) == DISC)

    def test_no_files(self):
        disc = make_chains([], 9, 32, 2)
        self.assertTrue(self.mended(disc, []) == disc)

    def test_empty_files(self):
        disc = make_chains([("A", []), ("B", [1]), ("C", [])], 12, 32, 2)
        self.assertTrue(self.mended(disc, [("A", 0, 0), ("B", 1, 0), ("C", 0, 0)]) == disc)

    def test_any_discs(self):
        source = random.Random(60)
        for size in (16, 32, 64, 128, 256, 512):
            disc = make_chains(any_files(source, 5, 4 * size), 60, size, 5)
            self.assertTrue(self.mended(disc) == disc)

    def test_bytes_behind_the_end_of_a_file_and_in_free_blocks(self):
        disc = edited(DISC, 13, 8, [1, 2, 3, 4, 5, 6, 7, 8]).with_block(18, [77] * 16)
        self.assertTrue(self.mended(disc) == disc)

    def test_bytes_behind_a_free_entry(self):
        """Sound, but not bytes 0 alone: they become so."""
        disc = make_chains(FILES, 20, 32, 3)
        odd = edited(edited(disc, 6, 16, [0, 7, 7]), 7, 0, [5] * 32)
        self.assertIs(is_sound(odd), True)
        self.assertTrue(self.mended(odd, [("ONE", 40, 0), ("TWO", 32, 0), ("THREE", 5, 0)]) == disc)

    def test_the_kinds_of_values(self):
        pair = mended_chains(DISC)
        self.assertEqual([type(pair), type(pair[1]), type(pair[1][0])], [tuple, list, tuple])


class MissingBlocksTest(MendingTest):

    def test_data_blocks(self):
        better = self.mended(without(DISC, 12), [("ONE", 24, 16), ("TWO", 32, 0), ("THREE", 5, 0)])
        self.assertEqual(self.files_of(better)[0], ("ONE", ONE[:16] + [0] * 16 + ONE[32:]))
        better = self.mended(without(DISC, 13, 16), [("ONE", 32, 8), ("TWO", 32, 0), ("THREE", 0, 5)])
        self.assertEqual(self.files_of(better), [("ONE", ONE[:32] + [0] * 8), ("TWO", TWO), ("THREE", [0] * 5)])

    def test_all_data_blocks(self):
        better = self.mended(without(DISC, *range(FIRST, 20)), [("ONE", 0, 40), ("TWO", 0, 32), ("THREE", 0, 5)])
        self.assertEqual(self.files_of(better), [("ONE", [0] * 40), ("TWO", [0] * 32), ("THREE", [0] * 5)])

    def test_free_blocks(self):
        better = self.mended(without(DISC, 17, 19), [("ONE", 40, 0), ("TWO", 32, 0), ("THREE", 5, 0)])
        self.assertTrue(better == DISC)

    def test_a_free_block_with_bytes(self):
        disc = DISC.with_block(17, [9] * 16)
        self.assertEqual(self.mended(disc).block(17), [9] * 16)
        self.assertEqual(self.mended(without(disc, 17)).block(17), [0] * 16)

    def test_the_table_in_one_copy(self):
        for blocks in ((1,), (5,), (1, 2, 3), (4, 5, 6), (1, 5), (4, 2, 6), (2, 3, 4)):
            self.assertTrue(self.mended(without(DISC, *blocks)) == DISC)

    def test_the_table_in_both_copies(self):
        """The second block of the table tells of the blocks 8 to 15, so ONE is read up to its first entry there."""
        better = self.mended(without(DISC, 2, 5), [("ONE", 16, 24), ("TWO", 16, 16), ("THREE", 5, 0)])
        self.assertEqual(self.files_of(better), [("ONE", ONE[:16]), ("TWO", TWO[:16]), ("THREE", THREE)])
        self.assertTrue(self.mended(without(DISC, 1, 4)) == DISC)
        self.assertTrue(self.mended(without(DISC, 3, 6)) == DISC)

    def test_copies_that_differ(self):
        """The first copy is taken where it is there."""
        self.assertTrue(self.mended(with_numbers(DISC, {11: 1, 14: 500}, (1,))) == DISC)
        first = with_numbers(DISC, {11: 1}, (0,))
        self.mended(first, [("ONE", 16, 24), ("TWO", 32, 0), ("THREE", 5, 0)])
        self.assertTrue(self.mended(without(first, 2)) == DISC)

    def test_directory_blocks(self):
        better = self.mended(without(DISC, 8), [("ONE", 40, 0), ("THREE", 5, 0)])
        self.assertEqual(self.files_of(better), [("ONE", ONE), ("THREE", THREE)])
        self.assertEqual(better.block(8)[:8], [84, 72, 82, 69, 69, 32, 32, 32])
        self.assertEqual([better.block(9), better.block(10)], [[0] * 16] * 2)
        self.assertEqual(directory_faults(better), ([], []))
        self.mended(without(DISC, 7, 9), [("TWO", 32, 0)])
        self.mended(without(DISC, 7, 8, 9, 10), [])
        self.assertTrue(self.mended(without(DISC, 10)) == DISC)

    def test_the_blocks_of_a_lost_file_are_free(self):
        better = self.mended(without(DISC, 8))
        self.assertEqual(better.block(2), [255] * 6 + [0, 12, 0, 13, 0, 1, 0, 0, 0, 0])
        self.assertEqual(better.block(5), better.block(2))
        self.assertEqual(better.block(14), TWO[:16])

    def test_an_entry_behind_a_missing_block(self):
        disc = make_chains(FILES, 20, 32, 4)
        first = 1 + 2 * model_tables(20, 32)
        better = self.mended(without(disc, first), [("THREE", 5, 0)])
        self.assertEqual(chain_files(better), ["THREE"])


class ChainsThatStopTest(MendingTest):

    def stops(self, numbers, reason, told):
        """ONE stops for a reason with other numbers in the table."""
        disc = with_numbers(DISC, numbers)
        self.assertEqual(read_chain(disc, "ONE")[2], reason)
        return self.mended(disc, [told, ("TWO", 32, 0), ("THREE", 5, 0)])

    def test_lost_entries(self):
        """The blocks 13 to 19 are those of the file; two blocks of the table tell of them."""
        disc = make_chains([("ONE", list(range(100)))], 40, 16, 2)
        for blocks, kept in (((2, 7), 16), ((3, 8), 64), ((2, 3, 7, 8), 16)):
            lost = without(disc, *blocks)
            self.assertEqual(read_chain(lost, "ONE")[2], "lost entry")
            better = self.mended(lost, [("ONE", kept, 100 - kept)])
            self.assertEqual(self.files_of(better), [("ONE", list(range(kept)))])

    def test_a_lost_entry_behind_the_last_block(self):
        """Nothing of the file is lost, and the chain gets its end again."""
        disc = make_chains([("ONE", list(range(10)))], 40, 64, 2)
        lost = without(disc, 1, 3)
        self.assertEqual(read_chain(lost, "ONE")[2], "lost entry")
        self.assertTrue(self.mended(lost, [("ONE", 10, 0)]) == disc)

    def test_bad_chains(self):
        for number in (0, 1, 2, 5, 10, 20, 21, 65535):
            better = self.stops({12: number}, "bad chain", ("ONE", 32, 8))
            self.assertEqual(self.files_of(better)[0], ("ONE", ONE[:32]))
            self.stops({11: number}, "bad chain", ("ONE", 16, 24))

    def test_a_bad_first_block(self):
        for first in (0, 1, 10, 20, 65535):
            better = self.mended(with_entry(DISC, 0, first=first), [("ONE", 0, 40), ("TWO", 32, 0), ("THREE", 5, 0)])
            self.assertEqual(better.block(7)[:14], [79, 78, 69, 32, 32, 32, 32, 32] + [0] * 6)
            self.assertEqual(better.block(7)[14:], [255, 255])
            self.assertEqual(better.block(11), ONE[:16])

    def test_loops(self):
        self.stops({12: 11}, "loop", ("ONE", 32, 8))
        self.stops({12: 12}, "loop", ("ONE", 32, 8))
        self.stops({11: 11}, "loop", ("ONE", 16, 24))

    def test_chains_that_are_too_long(self):
        for number in (0, 17, 11, 65535):
            better = self.stops({13: number}, "too long", ("ONE", 40, 0))
            self.assertTrue(better == DISC)

    def test_an_empty_file_with_a_first_block(self):
        disc = make_chains([("A", []), ("B", [1])], 12, 32, 2)
        for first in (1, 7, 9, 65535):
            odd = with_entry(disc, 0, first=first)
            self.assertEqual(read_chain(odd, "A")[2], "too long")
            self.assertTrue(self.mended(odd, [("A", 0, 0), ("B", 1, 0)]) == disc)

    def test_a_missing_block_in_what_is_kept_and_a_stop_behind_it(self):
        disc = without(with_numbers(DISC, {12: 0}), 11)
        better = self.mended(disc, [("ONE", 16, 24), ("TWO", 32, 0), ("THREE", 5, 0)])
        self.assertEqual(self.files_of(better)[0], ("ONE", [0] * 16 + ONE[16:32]))

    def test_another_way_through_the_blocks(self):
        disc = with_numbers(with_entry(DISC, 0, first=18), {18: 17, 17: 11, 11: 1, 12: 0, 13: 0})
        better = self.mended(disc, [("ONE", 40, 0), ("TWO", 32, 0), ("THREE", 5, 0)])
        self.assertEqual(self.files_of(better)[0], ("ONE", [0] * 32 + ONE[:8]))
        self.assertEqual(better.block(7)[14:], two(model_crc([0] * 32 + ONE[:8])))


class ChainsThatMeetTest(MendingTest):

    def test_a_later_file_is_cut(self):
        disc = with_numbers(DISC, {14: 12, 15: 0})
        self.assertEqual(read_chain(disc, "TWO")[2], "too long")
        better = self.mended(disc, [("ONE", 40, 0), ("TWO", 16, 16), ("THREE", 5, 0)])
        self.assertEqual(self.files_of(better), [("ONE", ONE), ("TWO", TWO[:16]), ("THREE", THREE)])

    def test_it_is_the_order_of_the_directory(self):
        disc = with_numbers(DISC, {11: 14})
        better = self.mended(disc, [("ONE", 40, 0), ("TWO", 0, 32), ("THREE", 5, 0)])
        self.assertEqual(self.files_of(better), [("ONE", ONE[:16] + TWO[:24]), ("TWO", []), ("THREE", THREE)])
        self.assertEqual(better.block(8)[8:], [0, 0, 0, 0, 0, 0, 255, 255])

    def test_the_same_first_block(self):
        disc = with_entry(DISC, 1, first=11)
        self.mended(disc, [("ONE", 40, 0), ("TWO", 0, 32), ("THREE", 5, 0)])

    def test_a_cut_file_does_not_keep_what_stands_behind_the_cut(self):
        """TWO is cut where it meets ONE, so THREE may have the block behind that."""
        disc = with_numbers(DISC, {14: 13, 13: 1, 11: 12, 12: 13})
        disc = with_entry(with_entry(disc, 1, length=48), 2, first=15)
        self.mended(disc, [("ONE", 40, 0), ("TWO", 16, 32), ("THREE", 5, 0)])
        disc = with_numbers(disc, {13: 15})
        self.mended(disc, [("ONE", 40, 0), ("TWO", 16, 32), ("THREE", 5, 0)])

    def test_bytes_behind_the_cut_are_lost_though_they_can_be_read(self):
        disc = with_numbers(DISC, {14: 13})
        self.assertEqual(read_chain(disc, "TWO"), (TWO[:16] + ONE[32:] + [0] * 8, [], "", False))
        self.mended(disc, [("ONE", 40, 0), ("TWO", 16, 16), ("THREE", 5, 0)])

    def test_a_bad_file_keeps_nothing(self):
        disc = with_entry(with_entry(DISC, 0, name=[111]), 1, first=11)
        better = self.mended(disc, [("TWO", 32, 0), ("THREE", 5, 0)])
        self.assertEqual(self.files_of(better)[0], ("TWO", ONE[:32]))


class DirectoryTest(MendingTest):

    def test_bad_entries(self):
        for name in ([97], [32] * 8, [65, 0], [79, 32, 69], [37]):
            better = self.mended(with_entry(DISC, 0, name=name), [("TWO", 32, 0), ("THREE", 5, 0)])
            self.assertEqual(better.block(7)[:10], [84, 87, 79, 32, 32, 32, 32, 32, 0, 14])
            self.assertEqual([better.block(9), better.block(10)], [[0] * 16] * 2)

    def test_a_name_that_stands_twice(self):
        disc = with_entry(DISC, 2, name=[79, 78, 69, 32, 32])
        self.mended(disc, [("ONE", 40, 0), ("TWO", 32, 0)])

    def test_lengths(self):
        disc = with_entry(DISC, 1, length=321)
        self.assertEqual(directory_faults(disc), ([], [1]))
        self.mended(disc, [("ONE", 40, 0), ("THREE", 5, 0)])
        better = self.mended(with_entry(DISC, 1, length=320), [("ONE", 40, 0), ("TWO", 32, 288), ("THREE", 5, 0)])
        self.assertEqual(better.block(8)[10:14], [0, 0, 0, 32])
        self.assertTrue(better == DISC)

    def test_a_length_that_is_greater_than_the_chain(self):
        for length, told in ((33, ("TWO", 32, 1)), (48, ("TWO", 32, 16)), (49, ("TWO", 32, 17))):
            better = self.mended(with_entry(DISC, 1, length=length), [("ONE", 40, 0), told, ("THREE", 5, 0)])
            self.assertTrue(better == DISC)

    def test_a_length_within_the_blocks(self):
        """It stays, though the CRC is then another one."""
        better = self.mended(with_entry(DISC, 1, length=30), [("ONE", 40, 0), ("TWO", 30, 0), ("THREE", 5, 0)])
        self.assertEqual(self.files_of(better)[1], ("TWO", TWO[:30]))
        self.assertEqual(better.block(8)[10:], [0, 0, 0, 30] + two(model_crc(TWO[:30])))
        better = self.mended(with_entry(DISC, 1, length=16), [("ONE", 40, 0), ("TWO", 16, 0), ("THREE", 5, 0)])
        self.assertEqual(self.files_of(better)[1], ("TWO", TWO[:16]))
        better = self.mended(with_entry(DISC, 1, length=0), [("ONE", 40, 0), ("TWO", 0, 0), ("THREE", 5, 0)])
        self.assertEqual(better.block(8)[8:], [0, 0, 0, 0, 0, 0, 255, 255])

    def test_a_wrong_crc(self):
        disc = edited(DISC, 8, 14, [1, 2])
        self.assertTrue(self.mended(disc, [("ONE", 40, 0), ("TWO", 32, 0), ("THREE", 5, 0)]) == DISC)
        disc = edited(DISC, 14, 3, [200])
        better = self.mended(disc, [("ONE", 40, 0), ("TWO", 32, 0), ("THREE", 5, 0)])
        self.assertEqual(self.files_of(better)[1], ("TWO", TWO[:3] + [200] + TWO[4:]))

    def test_entries_behind_a_free_one(self):
        better = self.mended(with_entry(DISC, 1, name=[0]), [("ONE", 40, 0)])
        self.assertEqual([better.block(index) for index in (8, 9, 10)], [[0] * 16] * 3)
        self.assertEqual(better.block(2), [255] * 6 + [0, 12, 0, 13, 0, 1, 0, 0, 0, 0])

    def test_long_lengths(self):
        values = [at * 3 % 256 for at in range(60000)]
        disc = make_chains([("A", values), ("B", [1])], 300, 512, 1)
        self.assertTrue(self.mended(disc, [("A", 60000, 0), ("B", 1, 0)]) == disc)
        disc = with_entry(disc, 0, length=140 * 512)
        self.mended(disc, [("A", 60416, 140 * 512 - 60416), ("B", 1, 0)])

    def test_a_mended_file_above_60000_bytes(self):
        """A chain may be longer than the files that make_chains takes."""
        disc = make_chains([("A", [7] * 60000)], 300, 512, 1)
        first = disc.block(5)[9]
        disc = with_numbers(disc, {first + 117: first + 118, first + 118: first + 119, first + 119: 1})
        better = self.mended(with_entry(disc, 0, length=120 * 512), [("A", 120 * 512, 0)])
        self.assertEqual(len(read_chain(better, "A")[0]), 120 * 512)


class HeadTest(MendingTest):

    def test_no_file_system(self):
        self.no_file_system(without(DISC, 0))
        for offset, value in ((0, 68), (1, 0), (2, 1), (3, 21), (4, 2), (5, 0), (5, 14), (5, 21), (6, 1), (15, 9)):
            self.no_file_system(edited(DISC, 0, offset, [value]))
        self.no_file_system(BlockDisc([[0] * 16] * 8))
        self.no_file_system(make_extents([("ONE", [1])], 8, 32, 1))

    def test_a_directory_up_to_the_end(self):
        disc = make_chains([], 9, 32, 6)
        self.assertTrue(self.mended(disc, []) == disc)
        self.assertTrue(self.mended(without(disc, 3, 8), []) == disc)


class AnyDamageTest(MendingTest):

    def damaged(self, source, disc):
        """The disc with several kinds of damage."""
        for _ in range(source.randrange(1, 7)):
            tables = model_tables(len(disc), disc.size)
            start = 1 + 2 * tables
            kind = source.randrange(5)
            if kind == 0:
                disc = disc.with_block(source.randrange(1, len(disc)), None)
            elif kind == 1:
                disc = without(disc, *[1 + at for at in range(2 * tables) if source.randrange(4) == 0])
            elif kind == 2:
                index = source.randrange(len(disc))
                blocks = [1 + copy * tables + 2 * index // disc.size for copy in (0, 1)]
                number = two(source.choice([0, 1, source.randrange(len(disc) + 2)]))
                for block in blocks:
                    if disc.block(block) is not None and source.randrange(5):
                        disc = edited(disc, block, 2 * index % disc.size, number)
            elif kind == 3:
                number = source.randrange(5)
                if disc.block(start + number * 16 // disc.size) is not None:
                    disc = with_entry(disc, number, first=source.randrange(start, len(disc)))
            else:
                number = source.randrange(5)
                if disc.block(start + number * 16 // disc.size) is not None:
                    length = source.choice([0, 5, disc.size, source.randrange(len(disc) * disc.size + 3)])
                    disc = with_entry(disc, number, length=length)
        return disc

    def test_any_damage(self):
        source = random.Random(59)
        for _ in range(400):
            size = source.choice([16, 32, 64])
            disc = make_chains(any_files(source, source.randrange(1, 6), 5 * size), source.randrange(42, 50), size, 5)
            disc = self.damaged(source, disc)
            self.keeps(disc, self.mended(disc))


if __name__ == "__main__":
    unittest.main()
