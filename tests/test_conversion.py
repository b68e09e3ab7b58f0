"""Points 61 and 62: discwright/conversion.py."""

import random
import unittest

from discwright.blockdiscs import BlockDisc
from discwright.chains import chain_files, is_sound, make_chains, read_chain
from discwright.conversion import all_files, compared, converted, kind_of
from discwright.errors import DiscError, InvalidFiles, NoFileSystem
from discwright.extents import are_extents_sound, delete_file, extent_files, make_extents, read_extent
from tests.test_chains import edited, two, without

ONE = list(range(1, 101))
TWO = list(range(150, 190))
FILES = [("ONE", ONE), ("EMPTY", []), ("TWO", TWO), ("ANOTHER", [7])]
CHAINS = make_chains(FILES, 30, 32, 3)
EXTENTS = make_extents(FILES, 30, 32, 8)
# The first data blocks: 1 + 2 * 2 + 3 and 1 + 8.
CHAIN_DATA = 8
EXTENT_DATA = 9
NEITHER = BlockDisc([[1] * 32, [2] * 32, [3] * 32, [4] * 32])


def any_files(source, count, most):
    names = source.sample(["A", "B", "C3", "DD", "E", "F9", "10", "9", "ZZZZZZZZ", "K", "OTHER"], count)
    return [(name, [source.randrange(256) for _ in range(source.randrange(most + 1))]) for name in names]


class ConversionTest(unittest.TestCase):

    def refused(self, error, call, *arguments):
        with self.assertRaises(DiscError) as caught:
            call(*arguments)
        self.assertIs(type(caught.exception), error)

    def no_file_system(self, disc):
        """A disc that no function takes, whatever else is wrong."""
        self.assertEqual(kind_of(disc), "none")
        self.refused(NoFileSystem, all_files, disc)
        for kind in ("chains", "extents"):
            self.refused(NoFileSystem, converted, disc, kind, 30, 32, 8)
            self.refused(NoFileSystem, converted, disc, kind, 3, 7, 0)
        self.refused(NoFileSystem, compared, disc, CHAINS)
        self.refused(NoFileSystem, compared, EXTENTS, disc)
        self.refused(NoFileSystem, compared, disc, disc)


class KindTest(ConversionTest):

    def test_both_kinds(self):
        for size in (16, 32, 64, 128, 256, 512):
            self.assertEqual(kind_of(make_chains([], 20, size, 2)), "chains")
            if size > 16:
                self.assertEqual(kind_of(make_extents([], 20, size, 2)), "extents")

    def test_neither(self):
        self.no_file_system(NEITHER)
        self.no_file_system(BlockDisc([[0] * 16]))
        self.no_file_system(BlockDisc([[255] * 512] * 20))

    def test_a_missing_head(self):
        self.no_file_system(without(CHAINS, 0))
        self.no_file_system(without(EXTENTS, 0))

    def test_chains_with_a_head_that_is_not_right(self):
        """It begins as one of chains, but for the first two."""
        for offset, value in ((0, 66), (1, 88), (2, 1), (3, 29), (4, 3), (5, 0), (5, 21), (5, 26), (6, 1), (31, 255)):
            self.no_file_system(edited(CHAINS, 0, offset, [value]))
        self.assertEqual(kind_of(edited(CHAINS, 0, 5, [20])), "chains")

    def test_extents_with_a_head_that_is_not_right(self):
        for offset, value in ((0, 67), (1, 72), (2, 1), (3, 29), (4, 0), (4, 21), (5, 1), (31, 255)):
            self.no_file_system(edited(EXTENTS, 0, offset, [value]))
        self.assertEqual(kind_of(edited(EXTENTS, 0, 4, [20])), "extents")

    def test_heads_of_another_disc(self):
        """The head tells the number of the blocks of its own disc."""
        self.no_file_system(BlockDisc([CHAINS.block(index) for index in range(29)]))
        self.no_file_system(BlockDisc([EXTENTS.block(index) for index in range(29)]))

    def test_a_directory_beyond_the_end(self):
        self.assertEqual(kind_of(BlockDisc([[69, 88, 0, 4, 3] + [0] * 27] + [[0] * 32] * 3)), "extents")
        self.no_file_system(BlockDisc([[69, 88, 0, 4, 4] + [0] * 27] + [[0] * 32] * 3))
        self.assertEqual(kind_of(BlockDisc([[67, 72, 0, 4, 1, 1] + [0] * 26] + [[0] * 32] * 3)), "chains")
        self.no_file_system(BlockDisc([[67, 72, 0, 4, 1, 2] + [0] * 26] + [[0] * 32] * 3))

    def test_extents_on_blocks_of_16_bytes(self):
        self.no_file_system(BlockDisc([[69, 88, 0, 4, 1] + [0] * 11] + [[0] * 16] * 3))

    def test_the_head_alone(self):
        self.assertEqual(kind_of(without(CHAINS, *range(1, 30))), "chains")
        self.assertEqual(kind_of(without(EXTENTS, *range(1, 30))), "extents")
        self.assertEqual(kind_of(edited(CHAINS, 5, 0, [1] * 32)), "chains")


class AllFilesTest(ConversionTest):

    def test_in_order(self):
        self.assertEqual(all_files(CHAINS), FILES)
        self.assertEqual(all_files(EXTENTS), FILES)
        self.assertEqual([type(all_files(CHAINS)), type(all_files(CHAINS)[0]), type(all_files(CHAINS)[0][1])],
                         [list, tuple, list])

    def test_no_files(self):
        self.assertEqual(all_files(make_chains([], 20, 16, 1)), [])
        self.assertEqual(all_files(make_extents([], 20, 32, 1)), [])

    def test_damaged_bytes(self):
        wanted = [("ONE", ONE[:32] + [0] * 32 + ONE[64:]), ("EMPTY", []), ("TWO", TWO[:32] + [0] * 8), ("ANOTHER", [7])]
        self.assertEqual(all_files(without(CHAINS, CHAIN_DATA + 1, CHAIN_DATA + 5)), wanted)
        self.assertEqual(all_files(without(EXTENTS, EXTENT_DATA + 1, EXTENT_DATA + 5)), wanted)

    def test_chains_that_stop(self):
        disc = edited(CHAINS, 1, 2 * (CHAIN_DATA + 1), [0, 0])
        self.assertEqual(all_files(disc)[0], ("ONE", ONE[:64] + [0] * 36))

    def test_missing_extents(self):
        values = [at % 200 + 1 for at in range(600)]
        disc = make_extents([("A", values), ("B", [2])], 40, 32, 4)
        self.assertEqual(all_files(edited(disc, 3, 0, [229])), [("A", values[:512] + [0] * 88), ("B", [2])])
        self.assertEqual(all_files(without(disc, 1)), [("A", [0] * 256 + values[256:]), ("B", [2])])
        self.assertEqual(all_files(without(disc, 1, 2)), [("A", [0] * 512 + values[512:]), ("B", [2])])

    def test_lost_and_bad_entries(self):
        self.assertEqual(all_files(without(CHAINS, 5)), FILES[2:])
        self.assertEqual(all_files(edited(CHAINS, 5, 0, [97])), FILES[1:])
        self.assertEqual(all_files(without(EXTENTS, 2)), FILES[:1] + FILES[2:])
        self.assertEqual(all_files(edited(EXTENTS, 1, 1, [97])), FILES[1:])
        self.assertEqual(all_files(delete_file(EXTENTS, "TWO")), FILES[:2] + FILES[3:])

    def test_the_order_of_extents(self):
        """The first entry of a name tells its place."""
        values = [5] * 300
        disc = make_extents([("B", values), ("A", [1])], 40, 32, 4)
        entries = [disc.block(index) for index in (1, 2, 3)]
        for order in ((2, 0, 1), (1, 2, 0), (2, 1, 0), (0, 2, 1)):
            moved = disc
            for at, entry in enumerate(order):
                moved = moved.with_block(1 + at, entries[entry])
            wanted = [("A", [1]), ("B", values)] if order[0] == 2 else [("B", values), ("A", [1])]
            self.assertEqual(all_files(moved), wanted)

    def test_new_lists(self):
        all_files(CHAINS)[0][1].append(5)
        self.assertEqual(all_files(CHAINS), FILES)


class ConvertedTest(ConversionTest):

    def test_both_ways_and_to_the_same_kind(self):
        for disc in (CHAINS, EXTENTS):
            self.assertEqual(converted(disc, "chains", 25, 64, 2), (make_chains(FILES, 25, 64, 2), []))
            self.assertEqual(converted(disc, "extents", 25, 64, 3), (make_extents(FILES, 25, 64, 3), []))

    def test_the_kinds_of_values(self):
        pair = converted(CHAINS, "extents", 25, 64, 3)
        self.assertEqual([type(pair), type(pair[0]), type(pair[1])], [tuple, BlockDisc, list])

    def test_there_and_back(self):
        source = random.Random(61)
        for _ in range(60):
            files = any_files(source, source.randrange(8), 700)
            disc = make_chains(files, 200, 32, 8)
            other, names = converted(disc, "extents", 150, 64, 10)
            self.assertEqual([names, extent_files(other)], [[], [name for name, _ in files]])
            self.assertIs(are_extents_sound(other), True)
            again, names = converted(other, "chains", 200, 32, 8)
            self.assertEqual([names, again == disc, is_sound(again)], [[], True, True])

    def test_names_that_were_not_whole(self):
        damaged = without(CHAINS, CHAIN_DATA, CHAIN_DATA + 4)
        other, names = converted(damaged, "extents", 25, 64, 3)
        self.assertEqual(names, ["ONE", "TWO"])
        wanted = [("ONE", [0] * 32 + ONE[32:]), ("EMPTY", []), ("TWO", [0] * 32 + TWO[32:]), ("ANOTHER", [7])]
        self.assertEqual(other, make_extents(wanted, 25, 64, 3))
        self.assertIs(are_extents_sound(other), True)
        damaged = without(EXTENTS, EXTENT_DATA + 6)
        other, names = converted(damaged, "chains", 25, 64, 2)
        self.assertEqual([names, read_chain(other, "ANOTHER")], [["ANOTHER"], ([0], [], "", True)])

    def test_the_order_of_the_names(self):
        damaged = without(CHAINS, CHAIN_DATA, CHAIN_DATA + 4, CHAIN_DATA + 6)
        self.assertEqual(converted(damaged, "chains", 25, 64, 2)[1], ["ONE", "TWO", "ANOTHER"])

    def test_a_wrong_crc_alone(self):
        for disc, index in ((CHAINS, CHAIN_DATA + 5), (EXTENTS, EXTENT_DATA + 5)):
            damaged = edited(disc, index, 0, [0])
            other, names = converted(damaged, "extents", 25, 64, 3)
            self.assertEqual(names, ["TWO"])
            self.assertEqual(read_extent(other, "TWO"), (TWO[:32] + [0] + TWO[33:], [], "", True))

    def test_a_reason_alone(self):
        """No byte is damaged, but the chain goes on."""
        disc = edited(CHAINS, 1, 2 * (CHAIN_DATA + 3), [0, 20])
        self.assertEqual(read_chain(disc, "ONE"), (ONE, [], "too long", False))
        self.assertEqual(converted(disc, "chains", 30, 32, 3), (CHAINS, ["ONE"]))

    def test_entries_that_cannot_be_read(self):
        other, names = converted(without(CHAINS, 5), "extents", 25, 64, 3)
        self.assertEqual([names, extent_files(other)], [[], ["TWO", "ANOTHER"]])

    def test_too_little_room(self):
        for disc in (CHAINS, EXTENTS):
            for kind, make in (("chains", make_chains), ("extents", make_extents)):
                for count, size, directory in ((8, 32, 4), (30, 32, 1), (3, 32, 1), (30, 33, 4), (30, 32, 0),
                                               (2001, 32, 4), (30, 32, 21), (30, 16, 2), (10, 32, 4)):
                    self.refused(InvalidFiles, make, FILES, count, size, directory)
                    self.refused(InvalidFiles, converted, disc, kind, count, size, directory)

    def test_just_enough_room(self):
        self.assertEqual(converted(CHAINS, "chains", 12, 32, 2)[1], [])
        self.refused(InvalidFiles, converted, CHAINS, "chains", 11, 32, 2)
        self.refused(InvalidFiles, converted, CHAINS, "chains", 12, 32, 1)
        self.assertEqual(converted(CHAINS, "extents", 12, 32, 4)[1], [])
        self.refused(InvalidFiles, converted, CHAINS, "extents", 11, 32, 4)
        self.refused(InvalidFiles, converted, CHAINS, "extents", 20, 32, 3)

    def test_files_that_are_too_long(self):
        disc = make_chains([("A", [7] * 60000)], 300, 512, 1)
        longer = edited(disc, 5, 10, [0, 0, 234, 97])
        self.assertEqual(len(all_files(longer)[0][1]), 60001)
        self.refused(InvalidFiles, converted, longer, "chains", 300, 512, 1)
        self.refused(InvalidFiles, converted, longer, "extents", 300, 512, 2)
        self.assertEqual(converted(disc, "chains", 300, 512, 1), (disc, []))

    def test_no_file_system_before_invalid_files(self):
        for disc in (NEITHER, without(CHAINS, 0), without(EXTENTS, 0)):
            for kind in ("chains", "extents"):
                self.refused(NoFileSystem, converted, disc, kind, 1, 1, 1)

    def test_the_disc_stays(self):
        converted(CHAINS, "extents", 25, 64, 3)
        self.assertEqual(chain_files(CHAINS), [name for name, _ in FILES])


class ComparedTest(ConversionTest):

    def told(self, first, second, wanted):
        """What is told of files on discs of all kinds."""
        discs = [[make_chains(files, 150, 32, 8), make_extents(files, 90, 64, 8)] for files in (first, second)]
        for one in discs[0]:
            for other in discs[1]:
                self.assertEqual(compared(one, other), wanted)

    def test_the_same(self):
        wanted = [("ANOTHER", "same"), ("EMPTY", "same"), ("ONE", "same"), ("TWO", "same")]
        for first in (CHAINS, EXTENTS):
            for second in (CHAINS, EXTENTS):
                self.assertEqual(compared(first, second), wanted)

    def test_no_files(self):
        self.told([], [], [])

    def test_the_kinds_of_values(self):
        told = compared(CHAINS, make_chains([("ONE", [5])], 20, 32, 1))
        self.assertEqual([type(told)] + [type(entry) for entry in told], [list] + [tuple] * 4)

    def test_files_that_only_one_has(self):
        self.told([("B", [1]), ("A", [])], [], [("A", "first"), ("B", "first")])
        self.told([], [("B", [1]), ("A", [])], [("A", "second"), ("B", "second")])
        self.told([("C", [1]), ("A", [2])], [("B", [1]), ("D", [2])],
                  [("A", "first"), ("B", "second"), ("C", "first"), ("D", "second")])

    def test_places(self):
        values = list(range(200))
        for place in (0, 1, 31, 32, 63, 64, 100, 198, 199):
            other = values[:place] + [255] + values[place + 1:]
            self.told([("A", values)], [("A", other)], [("A", "differs", place)])
            self.told([("A", other)], [("A", values)], [("A", "differs", place)])
            self.told([("A", values)], [("A", other[:place + 1])], [("A", "differs", place)])

    def test_more_than_one_place(self):
        self.told([("A", [1, 2, 3, 4])], [("A", [1, 9, 3, 9])], [("A", "differs", 1)])
        self.told([("A", [1, 2, 3])], [("A", [2, 3])], [("A", "differs", 0)])

    def test_a_beginning(self):
        values = list(range(100))
        for length in (1, 32, 50, 99):
            self.told([("A", values)], [("A", values[:length])], [("A", "differs", length)])
            self.told([("A", values[:length])], [("A", values)], [("A", "differs", length)])

    def test_empty_files(self):
        self.told([("A", [])], [("A", [])], [("A", "same")])
        self.told([("A", [])], [("A", [0])], [("A", "differs", 0)])
        self.told([("A", [1, 2])], [("A", [])], [("A", "differs", 0)])
        self.told([("A", [0])], [("A", [0, 0])], [("A", "differs", 1)])

    def test_the_order(self):
        first = [("B", [1]), ("9", [2]), ("A", [3]), ("AA", [4]), ("10", [5])]
        second = [("AA", [4]), ("Z", []), ("10", [6]), ("B", [1]), ("A1", [])]
        self.told(first, second, [("10", "differs", 0), ("9", "first"), ("A", "first"), ("A1", "second"),
                                  ("AA", "same"), ("B", "same"), ("Z", "second")])

    def test_damaged_bytes_are_0(self):
        self.assertEqual(compared(CHAINS, without(CHAINS, CHAIN_DATA + 1)),
                         [("ANOTHER", "same"), ("EMPTY", "same"), ("ONE", "differs", 32), ("TWO", "same")])
        disc = make_chains([("A", [1] * 32 + [0] * 32)], 20, 32, 1)
        lost = without(disc, disc.block(5)[9] + 1)
        self.assertIs(read_chain(lost, "A")[3], False)
        self.assertEqual(compared(disc, lost), [("A", "same")])

    def test_any_files(self):
        source = random.Random(62)
        for _ in range(60):
            first = any_files(source, source.randrange(9), 40)
            second = any_files(source, source.randrange(9), 40)
            for name, values in first:
                if source.randrange(2):
                    second = [pair for pair in second if pair[0] != name]
                    cut = values[:source.randrange(len(values) + 1)]
                    second.append((name, source.choice([values, cut, cut + [1, 2], cut])))
            one, other = dict(first), dict(second)
            wanted = []
            for name in sorted(set(one) | set(other)):
                if name not in other:
                    wanted.append((name, "first"))
                elif name not in one:
                    wanted.append((name, "second"))
                elif one[name] == other[name]:
                    wanted.append((name, "same"))
                else:
                    place = 0
                    while one[name][place:place + 1] == other[name][place:place + 1]:
                        place += 1
                    wanted.append((name, "differs", place))
            self.told(first, second, wanted)

    def test_no_file_system(self):
        for disc in (NEITHER, without(CHAINS, 0), without(EXTENTS, 0), edited(CHAINS, 0, 2, two(29))):
            self.refused(NoFileSystem, compared, disc, CHAINS)
            self.refused(NoFileSystem, compared, CHAINS, disc)
            self.refused(NoFileSystem, compared, disc, EXTENTS)
            self.refused(NoFileSystem, compared, EXTENTS, disc)


if __name__ == "__main__":
    unittest.main()
