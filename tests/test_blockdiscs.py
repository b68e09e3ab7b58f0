"""Points 28 and 29: discwright/blockdiscs.py."""

import random
import unittest

from discwright.blockdiscs import BlockDisc, disc_of, image_of
from discwright.errors import DiscError, InvalidCell, InvalidDisc, InvalidImage
from discwright.flux import Read, flux_of
from discwright.images import Image, image_bytes, read_image
from discwright.tracks import Sector, track_cells

CELL = 50
SIZES = (16, 32, 64, 128, 256, 512)


def any_blocks(source, count, size, missing=0):
    blocks = [[source.randrange(256) for _ in range(size)] for _ in range(count)]
    for index in source.sample(range(count), missing):
        blocks[index] = None
    return blocks


def blocks_of(disc):
    return [disc.block(index) for index in range(len(disc))]


class BlockDiscsTest(unittest.TestCase):

    def refused(self, error, call, *args):
        with self.assertRaises(DiscError) as caught:
            call(*args)
        self.assertIs(type(caught.exception), error, args)


class BlockDiscTest(BlockDiscsTest):

    def test_each_size(self):
        for size in SIZES:
            disc = BlockDisc([[1] * size, None, [255] * size])
            self.assertEqual([disc.size, len(disc)], [size, 3])
            self.assertEqual(blocks_of(disc), [[1] * size, None, [255] * size])

    def test_other_sizes(self):
        for size in (0, 1, 8, 15, 17, 24, 48, 511, 513, 1024):
            self.refused(InvalidDisc, BlockDisc, [[1] * size])
            self.refused(InvalidDisc, BlockDisc, [None, [1] * size, [1] * size])

    def test_no_block(self):
        self.refused(InvalidDisc, BlockDisc, [])

    def test_missing_blocks_alone(self):
        for count in (1, 2, 2000):
            self.refused(InvalidDisc, BlockDisc, [None] * count)

    def test_one_block_that_is_there(self):
        for at in range(3):
            blocks = [None] * 3
            blocks[at] = [7] * 32
            disc = BlockDisc(blocks)
            self.assertEqual([disc.size, blocks_of(disc)], [32, blocks])
        self.assertEqual(BlockDisc([[7] * 16]).size, 16)

    def test_blocks_of_different_sizes(self):
        for blocks in ([[1] * 16, [1] * 32], [[1] * 32, [1] * 16], [[1] * 16, None, [1] * 16, [1] * 17],
                       [[1] * 16, []], [None, [1] * 64, [1] * 63]):
            self.refused(InvalidDisc, BlockDisc, blocks)

    def test_values_that_are_no_bytes(self):
        for value in (-1, 256, 1000, 10 ** 20):
            for at in (0, 7, 15):
                block = [1] * 16
                block[at] = value
                self.refused(InvalidDisc, BlockDisc, [block])
                self.refused(InvalidDisc, BlockDisc, [[1] * 16, None, block])
        self.assertEqual(BlockDisc([[0, 255] * 8]).block(0), [0, 255] * 8)

    def test_the_number_of_blocks(self):
        self.assertEqual(len(BlockDisc([[1] * 16] * 2000)), 2000)
        self.assertEqual(len(BlockDisc([[1] * 16] + [None] * 1999)), 2000)
        self.refused(InvalidDisc, BlockDisc, [[1] * 16] * 2001)
        self.refused(InvalidDisc, BlockDisc, [None] * 2000 + [[1] * 16])

    def test_block(self):
        disc = BlockDisc([[1] * 16, None, list(range(16))])
        self.assertIs(type(disc.block(0)), list)
        self.assertEqual([disc.block(0), disc.block(1), disc.block(2)], [[1] * 16, None, list(range(16))])

    def test_missing(self):
        self.assertEqual(BlockDisc([[1] * 16] * 3).missing(), [])
        self.assertEqual(BlockDisc([None, [1] * 16, None, None, [2] * 16, None]).missing(), [0, 2, 3, 5])

    def test_with_block(self):
        disc = BlockDisc([[1] * 16, None, [3] * 16])
        self.assertEqual(blocks_of(disc.with_block(0, [9] * 16)), [[9] * 16, None, [3] * 16])
        self.assertEqual(blocks_of(disc.with_block(1, [9] * 16)), [[1] * 16, [9] * 16, [3] * 16])
        self.assertEqual(blocks_of(disc.with_block(2, None)), [[1] * 16, None, None])
        self.assertEqual(blocks_of(disc.with_block(1, None)), blocks_of(disc))
        self.assertIs(type(disc.with_block(0, None)), BlockDisc)
        self.assertEqual(blocks_of(disc), [[1] * 16, None, [3] * 16])

    def test_with_block_refuses(self):
        disc = BlockDisc([[1] * 16, None, [3] * 16])
        for values in ([], [1] * 15, [1] * 17, [1] * 32, [1] * 15 + [256], [-1] + [1] * 15):
            for index in range(3):
                self.refused(InvalidDisc, disc.with_block, index, values)
        self.refused(InvalidDisc, disc.with_block(0, None).with_block, 2, None)
        self.refused(InvalidDisc, BlockDisc([[1] * 16]).with_block, 0, None)
        self.assertEqual(blocks_of(disc), [[1] * 16, None, [3] * 16])

    def test_equal(self):
        one = BlockDisc([[1] * 16, None])
        self.assertTrue(one == BlockDisc([[1] * 16, None]))
        self.assertFalse(one != BlockDisc([[1] * 16, None]))
        self.assertTrue(one.with_block(1, [2] * 16).with_block(1, None) == one)

    def test_different(self):
        one = BlockDisc([[1] * 16, None])
        others = [
            BlockDisc([[1] * 15 + [2], None]), BlockDisc([None, [1] * 16]), BlockDisc([[1] * 16]),
            BlockDisc([[1] * 16, None, None]), BlockDisc([[1] * 16, [0] * 16]), BlockDisc([[1] * 32, None]),
        ]
        for other in others:
            self.assertFalse(one == other)
            self.assertTrue(one != other)

    def test_lists_that_were_passed_may_be_changed(self):
        blocks = [[1] * 16, None]
        disc = BlockDisc(blocks)
        values = [2] * 16
        other = disc.with_block(1, values)
        blocks[0][0] = 9
        blocks[0].append(9)
        blocks.append([5] * 16)
        values[3] = 9
        self.assertEqual([blocks_of(disc), disc.size], [[[1] * 16, None], 16])
        self.assertEqual(blocks_of(other), [[1] * 16, [2] * 16])

    def test_lists_that_were_returned_may_be_changed(self):
        disc = BlockDisc([[1] * 16, None])
        disc.block(0)[0] = 9
        disc.missing().append(5)
        self.assertEqual([disc.block(0), disc.missing()], [[1] * 16, [1]])

    def test_the_list_is_not_changed(self):
        blocks = [[1] * 16, None]
        BlockDisc(blocks).with_block(1, [5] * 16).with_block(0, None)
        self.assertEqual(blocks, [[1] * 16, None])


def sector(cylinder, head, number, size=0, value=None, **faults):
    value = number if value is None else value
    return Sector((cylinder, head, number, size), [value] * (16 << size), **faults)


def read_of(*sectors):
    return flux_of(track_cells(list(sectors)), CELL)


class DiscOfTest(BlockDiscsTest):

    def taken(self, tracks, geometry):
        return blocks_of(disc_of(Image(CELL, "", tracks), geometry))

    def test_where_the_blocks_stand(self):
        tracks = {}
        for cylinder in range(3):
            for head in range(2):
                sectors = [sector(cylinder, head, number, 1, 100 * head + 10 * cylinder + number)
                           for number in (4, 2, 3, 1)]
                tracks[cylinder, head] = [read_of(*sectors)]
        wanted = [[100 * head + 10 * cylinder + number] * 32
                  for cylinder in range(3) for head in range(2) for number in range(1, 5)]
        self.assertEqual(self.taken(tracks, (3, 2, 4, 1)), wanted)
        self.assertEqual(self.taken(tracks, (2, 2, 4, 1)), wanted[:16])
        self.assertEqual(self.taken(tracks, (3, 1, 4, 1)), wanted[0:4] + wanted[8:12] + wanted[16:20])
        self.assertEqual(self.taken(tracks, (1, 2, 2, 1)), wanted[0:2] + wanted[4:6])
        self.assertEqual(self.taken(tracks, (1, 1, 6, 1)), wanted[0:4] + [None, None])

    def test_each_size(self):
        for size in range(6):
            data = [at % 251 for at in range(16 << size)]
            read = read_of(Sector((0, 0, 1, size), data))
            self.assertEqual(self.taken({(0, 0): [read]}, (1, 1, 1, size)), [data])
            self.refused(InvalidDisc, disc_of, Image(CELL, "", {(0, 0): [read]}), (1, 1, 1, (size + 1) % 6))

    def test_tracks_that_are_not_there(self):
        tracks = {(1, 0): [read_of(sector(1, 0, 1), sector(1, 0, 2))]}
        self.assertEqual(self.taken(tracks, (2, 2, 2, 0)),
                         [None] * 4 + [[1] * 16, [2] * 16] + [None] * 2)

    def test_doubled_sectors(self):
        """The first one alone counts."""
        read = read_of(sector(0, 0, 1, value=5), sector(0, 0, 2), sector(0, 0, 1, value=6))
        self.assertEqual(self.taken({(0, 0): [read]}, (1, 1, 2, 0)), [[5] * 16, [2] * 16])
        read = read_of(sector(0, 0, 1, value=5, data_wrong=True), sector(0, 0, 2), sector(0, 0, 1, value=6))
        self.assertEqual(self.taken({(0, 0): [read]}, (1, 1, 2, 0)), [None, [2] * 16])
        read = read_of(sector(0, 0, 1, value=5, address_wrong=True), sector(0, 0, 1, value=6))
        self.assertEqual(self.taken({(0, 0): [read]}, (1, 1, 1, 0)), [[6] * 16])

    def test_sectors_of_other_addresses(self):
        read = read_of(sector(1, 0, 1), sector(0, 1, 2), sector(0, 0, 3, 1), sector(0, 0, 0), sector(0, 0, 6),
                       sector(0, 0, 5))
        self.assertEqual(self.taken({(0, 0): [read]}, (1, 1, 5, 0)), [None] * 4 + [[5] * 16])

    def test_sectors_on_other_tracks(self):
        tracks = {(0, 0): [read_of(sector(0, 0, 1), sector(0, 1, 1))], (0, 1): [read_of(sector(0, 0, 2))]}
        self.assertEqual(self.taken(tracks, (1, 2, 2, 0)), [[1] * 16, None, None, None])

    def test_wrong_crcs(self):
        read = read_of(sector(0, 0, 1, address_wrong=True), sector(0, 0, 2, data_wrong=True), sector(0, 0, 3),
                       Sector((0, 0, 4, 0), None))
        self.assertEqual(self.taken({(0, 0): [read]}, (1, 1, 4, 0)), [None, None, [3] * 16, None])

    def test_several_reads(self):
        wrong = [sector(0, 0, number, data_wrong=True) for number in (1, 2, 3, 4)]
        reads = [
            read_of(*wrong), read_of(wrong[0], sector(0, 0, 2), sector(0, 0, 3, value=8), wrong[3]),
            read_of(wrong[0], wrong[1], sector(0, 0, 3, value=9), wrong[3]), read_of(*wrong),
        ]
        # The first and the last one are voted, the third one is unsteady.
        self.assertEqual(self.taken({(0, 0): reads}, (1, 1, 4, 0)), [None, [2] * 16, None, None])

    def test_the_cell_of_the_image_counts(self):
        cells = track_cells([sector(0, 0, 1)])
        for cell in (10, 63, 1000):
            image = Image(cell, "", {(0, 0): [flux_of(cells, cell)]})
            self.assertEqual(blocks_of(disc_of(image, (1, 1, 1, 0))), [[1] * 16])
        self.refused(InvalidDisc, disc_of, Image(100, "", {(0, 0): [flux_of(cells, 50)]}), (1, 1, 1, 0))

    def test_all_blocks_missing(self):
        for tracks in ({}, {(0, 0): [Read([], 9)]}, {(0, 0): [read_of(sector(0, 0, 1, data_wrong=True))]},
                       {(5, 0): [read_of(sector(5, 0, 1))]}):
            self.refused(InvalidDisc, disc_of, Image(CELL, "", tracks), (2, 1, 3, 0))

    def test_the_image_stays(self):
        tracks = {(0, 0): [read_of(sector(0, 0, 1))]}
        image = Image(CELL, "", tracks)
        disc_of(image, (1, 1, 1, 0))
        self.assertTrue(image == Image(CELL, "", tracks))


class GeometryTest(BlockDiscsTest):

    IMAGE = Image(CELL, "", {(0, 0): [read_of(*[sector(0, 0, number, size) for number in (1, 40) for size in (0, 5)])]})

    def test_numbers_at_their_ends(self):
        for geometry, count in (
            ((1, 1, 1, 0), 1), ((100, 1, 1, 0), 100), ((1, 2, 1, 0), 2), ((1, 1, 40, 0), 40), ((1, 1, 1, 5), 1),
            ((100, 2, 10, 0), 2000), ((25, 2, 40, 5), 2000), ((50, 1, 40, 0), 2000), ((100, 1, 20, 5), 2000),
        ):
            disc = disc_of(self.IMAGE, geometry)
            self.assertEqual([len(disc), disc.size], [count, 16 << geometry[3]])
            self.assertEqual(disc.block(0), [1] * disc.size)

    def test_numbers_beyond(self):
        for geometry in (
            (0, 1, 1, 0), (101, 1, 1, 0), (-1, 1, 1, 0), (1, 0, 1, 0), (1, 3, 1, 0), (1, -1, 1, 0), (1, 1, 0, 0),
            (1, 1, 41, 0), (1, 1, -1, 0), (1, 1, 1, -1), (1, 1, 1, 6), (10 ** 20, 1, 1, 0), (-1, -1, 1, 0),
            (100, 2, 11, 0), (26, 2, 40, 0), (51, 1, 40, 0), (67, 1, 30, 0), (29, 2, 35, 0), (100, 2, 40, 0),
        ):
            self.refused(InvalidDisc, disc_of, self.IMAGE, geometry)
            count = max(1, min(2000, abs(geometry[0] * geometry[1] * geometry[2])))
            disc = BlockDisc([[1] * 16] * count)
            self.refused(InvalidDisc, image_of, disc, geometry, CELL, "")
            self.refused(InvalidDisc, image_of, disc, geometry, 9, "%")


class ImageOfTest(BlockDiscsTest):

    def test_track_by_track(self):
        blocks = [[number] * 32 for number in range(1, 13)]
        blocks[5] = None
        image = image_of(BlockDisc(blocks), (3, 2, 2, 1), 70, "a note")
        self.assertEqual([image.cell, image.note], [70, "a note"])
        self.assertEqual(image.places(), [(cylinder, head) for cylinder in range(3) for head in range(2)])
        for cylinder, head in image.places():
            first = 4 * cylinder + 2 * head
            sectors = [Sector((cylinder, head, 1, 1), blocks[first]), Sector((cylinder, head, 2, 1), blocks[first + 1])]
            self.assertEqual(image.reads((cylinder, head)), [flux_of(track_cells(sectors), 70)])

    def test_missing_blocks_are_sectors_without_data(self):
        image = image_of(BlockDisc([None, [3] * 16, None]), (1, 1, 3, 0), CELL, "")
        sectors = [Sector((0, 0, 1, 0), None), sector(0, 0, 2, value=3), Sector((0, 0, 3, 0), None)]
        self.assertEqual(image.reads((0, 0)), [read_of(*sectors)])

    def test_a_track_with_missing_blocks_alone(self):
        image = image_of(BlockDisc([None, None, [3] * 16, None]), (2, 1, 2, 0), CELL, "")
        self.assertEqual(image.reads((0, 0)), [read_of(Sector((0, 0, 1, 0), None), Sector((0, 0, 2, 0), None))])

    def test_the_same_disc_is_taken_again(self):
        source = random.Random(29)
        for geometry in ((1, 1, 1, 0), (2, 2, 3, 2), (5, 1, 4, 0), (1, 2, 9, 1), (3, 1, 1, 5), (1, 1, 40, 0)):
            count = geometry[0] * geometry[1] * geometry[2]
            for missing in sorted({0, count // 2, count - 1}):
                disc = BlockDisc(any_blocks(source, count, 16 << geometry[3], missing))
                image = image_of(disc, geometry, source.randrange(10, 1001), "")
                self.assertTrue(disc_of(image, geometry) == disc)
                kept, damaged = read_image(image_bytes(image))
                self.assertEqual(damaged, [])
                self.assertTrue(disc_of(kept, geometry) == disc)

    def test_another_number_of_blocks_or_another_size(self):
        disc = BlockDisc([[1] * 32] * 12)
        self.assertEqual(len(image_of(disc, (3, 2, 2, 1), CELL, "").places()), 6)
        for geometry in ((3, 2, 2, 0), (3, 2, 2, 2), (3, 2, 1, 1), (3, 2, 3, 1), (2, 2, 2, 1), (3, 1, 2, 1)):
            self.refused(InvalidDisc, image_of, disc, geometry, CELL, "")

    def test_lengths_of_a_cell(self):
        disc = BlockDisc([[1] * 16])
        for cell in (9, 1001, 0, -50):
            self.refused(InvalidCell, image_of, disc, (1, 1, 1, 0), cell, "")
        for cell in (10, 1000):
            self.assertEqual(image_of(disc, (1, 1, 1, 0), cell, "").cell, cell)

    def test_notes(self):
        disc = BlockDisc([[1] * 16])
        for note in ("%", "a%b", "x" * 201, "\n", "\t"):
            self.refused(InvalidImage, image_of, disc, (1, 1, 1, 0), CELL, note)
        self.assertEqual(image_of(disc, (1, 1, 1, 0), CELL, "x" * 200).note, "x" * 200)

    def test_too_many_intervals(self):
        """Bytes 0 give the most changes, one for each bit."""
        self.refused(InvalidImage, image_of, BlockDisc([[0] * 512] * 40), (1, 1, 40, 5), CELL, "")

    def test_as_many_intervals_as_a_read_may_have_and_one_more(self):
        source = random.Random(28)

        def changes(number, block):
            """How many changes a sector adds to a track."""
            return sum(track_cells([Sector((0, 0, number, 5), block)])) - sum(track_cells([]))

        blocks = [[0] * 512 for _ in range(13)]
        most = sum(track_cells([])) + sum(changes(at + 1, block) for at, block in enumerate(blocks))
        found = {}
        while 60000 not in found or 60001 not in found:
            # Bytes 170 give half as many changes as bytes 0.
            last = [170] * source.randrange(340, 375)
            last += [0] * (511 - len(last)) + [source.randrange(256)]
            found[most + changes(14, last)] = last
        for count, last in ((60000, found[60000]), (60001, found[60001])):
            disc = BlockDisc(blocks + [last])
            if count == 60000:
                image = image_of(disc, (1, 1, 14, 5), CELL, "")
                self.assertEqual(len(image.reads((0, 0))[0].intervals), 60000)
                self.assertTrue(disc_of(image, (1, 1, 14, 5)) == disc)
            else:
                self.refused(InvalidImage, image_of, disc, (1, 1, 14, 5), CELL, "")

    def test_which_error_comes_first(self):
        full = BlockDisc([[0] * 512] * 40)
        self.refused(InvalidDisc, image_of, full, (1, 1, 39, 5), 9, "%")
        self.refused(InvalidDisc, image_of, full, (1, 1, 40, 4), 1001, "%")
        self.refused(InvalidDisc, image_of, full, (1, 1, 41, 5), 1001, "%")
        self.refused(InvalidCell, image_of, full, (1, 1, 40, 5), 9, "%")
        self.refused(InvalidCell, image_of, full, (1, 1, 40, 5), 1001, "")
        self.refused(InvalidCell, image_of, BlockDisc([[1] * 16]), (1, 1, 1, 0), 9, "%")

    def test_the_disc_stays(self):
        blocks = [[1] * 16, None]
        disc = BlockDisc(blocks)
        image_of(disc, (2, 1, 1, 0), CELL, "")
        self.assertEqual(blocks_of(disc), blocks)


if __name__ == "__main__":
    unittest.main()
