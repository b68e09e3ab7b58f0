"""Points 63 and 64: discwright/reports.py."""

import random
import unittest

from discwright.blockdiscs import BlockDisc, disc_of, image_of
from discwright.chains import chain_files, make_chains, read_chain
from discwright.errors import DiscError, InvalidDisc, InvalidTask
from discwright.extents import make_extents
from discwright.flux import Read, fixed_cells, flux_of
from discwright.images import Image
from discwright.merging import outcomes
from discwright.protection import features, protected_cells
from discwright.reports import report, run_task
from discwright.tracks import Sector, track_cells
from tests.test_chains import edited, two, without

CELL = 50
# One track of three sectors with 16 bytes each; 10 + 3 * (32 + 12 + 16) bytes of 16 cells each.
ONE_TRACK = (1, 1, 3, 0)
ONE_TRACK_CELLS = 16 * 190
WRONG_GEOMETRIES = (
    (0, 1, 1, 0), (101, 1, 1, 0), (1, 0, 1, 0), (1, 3, 1, 0), (1, 1, 0, 0), (1, 1, 41, 0), (1, 1, 1, 6), (100, 2, 11, 0),
    (100, 1, 21, 0), (0, 0, 0, 0), (9999, 9999, 9999, 9999),
)


def filled(number, value, *, place=(0, 0), size=0, **faults):
    """A sector of a track with all its bytes alike."""
    return Sector(place + (number, size), [value] * (16 << size), **faults)


def empty(number, *, place=(0, 0), size=0):
    return Sector(place + (number, size), None)


def read_of(*sectors):
    return flux_of(track_cells(list(sectors)), CELL)


def image_with(*reads):
    """An image with reads of the first track."""
    return Image(CELL, "", {(0, 0): list(reads)})


def image_with_blocks(blocks):
    """An image of one track whose sectors have these blocks, and the geometry."""
    geometry = (1, 1, len(blocks), {16: 0, 32: 1, 64: 2}[len(blocks[-1])])
    return image_of(BlockDisc(blocks), geometry, CELL, ""), geometry


def blocks_of(disc):
    return [disc.block(index) for index in range(len(disc))]


def model_report(image, geometry):
    """The lines on the tracks, by the words of point 63."""
    cylinders, heads, sectors, size = geometry
    lines = ["disc " + " ".join(str(number) for number in geometry)]
    wanted = 16 * (10 + sectors * (44 + 16 * 2 ** size))
    for cylinder in range(cylinders):
        for head in range(heads):
            reads = image.reads((cylinder, head))
            good = 0
            for ((c, h, number, s), count), outcome in outcomes(reads, image.cell):
                if (c, h, s, count, outcome[0]) == (cylinder, head, size, 0, "good") and 1 <= number <= sectors:
                    good += 1
            counts = (cylinder, head, len(reads), good, sectors - good)
            lines.append("track {} {} reads {} good {} bad {}".format(*counts))
            for feature in features((cylinder, head), reads, image.cell, wanted) if reads else []:
                words = [",".join(map(str, part)) if type(part) is tuple else str(part) for part in feature]
                lines.append(" ".join(["feature"] + words))
    return lines


class ReportTest(unittest.TestCase):

    def told(self, image, geometry, wanted):
        lines = report(image, geometry)
        self.assertEqual(lines, wanted)
        self.assertEqual(lines[:len(model_report(image, geometry))], model_report(image, geometry))
        self.assertEqual({type(line) for line in lines}, {str})

    def track_told(self, reads, wanted, geometry=ONE_TRACK):
        """What is told of the first track of an image that has it alone."""
        lines = report(image_with(*reads), geometry)
        self.assertEqual(lines[:-1], ["disc " + " ".join(map(str, geometry))] + wanted)
        self.assertEqual(lines[:-1], model_report(image_with(*reads), geometry))
        self.assertIn(lines[-1], ("no blocks", "files none"))

    def refused(self, error, call, *arguments):
        with self.assertRaises(DiscError) as caught:
            call(*arguments)
        self.assertIs(type(caught.exception), error, arguments)


class TracksTest(ReportTest):

    def test_no_read(self):
        self.told(Image(CELL, "", {}), (2, 2, 4, 1),
                  ["disc 2 2 4 1", "track 0 0 reads 0 good 0 bad 4", "track 0 1 reads 0 good 0 bad 4",
                   "track 1 0 reads 0 good 0 bad 4", "track 1 1 reads 0 good 0 bad 4", "no blocks"])

    def test_one_read(self):
        self.track_told([read_of(filled(1, 5), filled(2, 6), filled(3, 7))], ["track 0 0 reads 1 good 3 bad 0"])

    def test_a_read_without_sectors(self):
        self.track_told([Read([], 0)], ["track 0 0 reads 1 good 0 bad 3"])

    def test_several_reads(self):
        whole = read_of(filled(1, 5), filled(2, 6), filled(3, 7))
        self.track_told([whole] * 20, ["track 0 0 reads 20 good 3 bad 0"])

    def test_good_in_one_of_several_reads(self):
        one = track_cells([filled(1, 5), filled(2, 6, data_wrong=True)])
        other = track_cells([filled(1, 5, data_wrong=True), filled(2, 6)])
        places = [at for at in range(len(one)) if one[at] != other[at]]
        lines = report(image_with(flux_of(one, CELL), flux_of(other, CELL)), ONE_TRACK)
        self.assertEqual(lines[1], "track 0 0 reads 2 good 2 bad 1")
        self.assertEqual(lines[2].split(" ")[:3], ["feature", "weak", str(places[0])])

    def test_all_tracks_in_order(self):
        disc = make_chains([("A", list(range(100)))], 24, 16, 2)
        self.told(image_of(disc, (3, 2, 4, 0), CELL, "x"), (3, 2, 4, 0),
                  ["disc 3 2 4 0", "track 0 0 reads 1 good 4 bad 0", "track 0 1 reads 1 good 4 bad 0",
                   "track 1 0 reads 1 good 4 bad 0", "track 1 1 reads 1 good 4 bad 0",
                   "track 2 0 reads 1 good 4 bad 0", "track 2 1 reads 1 good 4 bad 0",
                   "files chains", "file A 100 whole"])

    def test_tracks_with_other_numbers(self):
        tracks = {(0, 0): [read_of(filled(1, 5))], (0, 1): [read_of(filled(2, 5, place=(0, 1)))] * 2,
                  (2, 0): [read_of(filled(1, 5, place=(2, 0)), filled(2, 6, place=(2, 0)))]}
        self.told(Image(CELL, "", tracks), (3, 2, 2, 0),
                  ["disc 3 2 2 0", "track 0 0 reads 1 good 1 bad 1", "track 0 1 reads 2 good 1 bad 1",
                   "track 1 0 reads 0 good 0 bad 2", "track 1 1 reads 0 good 0 bad 2",
                   "track 2 0 reads 1 good 2 bad 0", "track 2 1 reads 0 good 0 bad 2", "files none"])

    def test_tracks_beyond_the_geometry(self):
        tracks = {(0, 0): [read_of(filled(1, 5))], (0, 1): [Read([9], 9)], (5, 0): [read_of(empty(1))]}
        self.told(Image(CELL, "", tracks), (1, 1, 1, 0),
                  ["disc 1 1 1 0", "track 0 0 reads 1 good 1 bad 0", "files none"])

    def test_lost_sectors(self):
        self.track_told([read_of(filled(1, 5), filled(2, 6, data_wrong=True))],
                        ["track 0 0 reads 1 good 1 bad 2", "feature wrong data 0,0,2,0"])
        self.track_told([read_of(filled(1, 5), empty(2))],
                        ["track 0 0 reads 1 good 1 bad 2", "feature no data 0,0,2,0"])
        self.track_told([read_of(filled(1, 5, address_wrong=True), filled(3, 6))], ["track 0 0 reads 1 good 1 bad 2"])

    def test_voted_sectors(self):
        wrong = read_of(filled(1, 5, data_wrong=True), filled(2, 6))
        self.assertEqual(outcomes([wrong] * 3, CELL)[0][1][0], "voted")
        self.track_told([wrong] * 3, ["track 0 0 reads 3 good 1 bad 2", "feature wrong data 0,0,1,0"])

    def test_unsteady_sectors(self):
        reads = [read_of(filled(1, 5), filled(2, 8)), read_of(filled(1, 4), filled(2, 8))]
        self.assertEqual(outcomes(reads, CELL)[0][1], ("unsteady",))
        lines = report(image_with(*reads), ONE_TRACK)
        self.assertEqual(lines[1], "track 0 0 reads 2 good 1 bad 2")
        self.assertEqual(lines, model_report(image_with(*reads), ONE_TRACK) + ["files none"])

    def test_addresses_of_no_sector_of_the_geometry(self):
        self.track_told([read_of(filled(1, 5), filled(0, 6), filled(4, 7))], ["track 0 0 reads 1 good 1 bad 2"])
        self.track_told([read_of(filled(1, 5), filled(2, 6, size=1))],
                        ["track 0 0 reads 1 good 1 bad 2", "feature mixed sizes"])
        self.track_told([read_of(filled(2, 6, place=(0, 1)), filled(3, 7, place=(1, 0)))],
                        ["track 0 0 reads 1 good 0 bad 3", "feature odd address 0,1,2,0",
                         "feature odd address 1,0,3,0"])

    def test_sectors_of_another_track(self):
        """They do not count for the track that their addresses tell."""
        tracks = {(0, 0): [read_of(filled(1, 5, place=(1, 0)))], (1, 0): [read_of(filled(2, 6, place=(1, 0)))]}
        self.told(Image(CELL, "", tracks), (2, 1, 2, 0),
                  ["disc 2 1 2 0", "track 0 0 reads 1 good 0 bad 2", "feature odd address 1,0,1,0",
                   "track 1 0 reads 1 good 1 bad 1", "files none"])

    def test_keys_with_a_count_above_0(self):
        self.track_told([read_of(filled(1, 5), filled(1, 6), filled(1, 7))],
                        ["track 0 0 reads 1 good 1 bad 2", "feature doubled 0,0,1,0 3"])
        self.track_told([read_of(filled(1, 5, data_wrong=True), filled(1, 6), filled(2, 2))],
                        ["track 0 0 reads 1 good 1 bad 2", "feature doubled 0,0,1,0 2"])

    def test_any_tracks(self):
        source = random.Random(63)
        for _ in range(60):
            geometry = (source.randrange(1, 3), source.randrange(1, 3), source.randrange(1, 4), source.randrange(2))
            tracks = {}
            for place in [(c, h) for c in range(geometry[0]) for h in range(geometry[1]) if source.randrange(4)]:
                tracks[place] = []
                for _ in range(source.randrange(1, 4)):
                    sectors = []
                    for number in range(1, geometry[2] + 1):
                        size = source.choice([geometry[3], geometry[3], geometry[3], 0])
                        faults = {"address_wrong": source.randrange(6) == 0, "data_wrong": source.randrange(4) == 0}
                        sectors.append(filled(source.choice([number, number, 1]), source.randrange(2),
                                              place=source.choice([place, place, place, (1, 1)]), size=size, **faults))
                        if source.randrange(6) == 0:
                            sectors.append(empty(number, place=place, size=size))
                    tracks[place].append(read_of(*sectors))
            image = Image(CELL, "", tracks)
            wanted = model_report(image, geometry)
            lines = report(image, geometry)
            self.assertEqual(lines[:-1], wanted)
            try:
                self.assertEqual(lines[-1], "files none" if disc_of(image, geometry) else "no blocks")
            except InvalidDisc:
                self.assertEqual(lines[-1], "no blocks")

    def test_the_image_stays(self):
        image = image_with(read_of(filled(1, 5)))
        report(image, ONE_TRACK)
        self.assertTrue(image == image_with(read_of(filled(1, 5))))


class FeaturesTest(ReportTest):

    def test_weak(self):
        sectors = [filled(1, 5), filled(2, 6), filled(3, 7)]
        reads = [flux_of(protected_cells(sectors, [(300, 2500)], number, length=190), CELL) for number in range(3)]
        lines = report(image_with(*reads), ONE_TRACK)
        told = [line for line in lines if line.startswith("feature weak ")]
        wanted = [feature for feature in features((0, 0), reads, CELL, ONE_TRACK_CELLS) if feature[0] == "weak"]
        self.assertEqual(told, ["feature weak " + str(place) + " " + str(count) for _, place, count in wanted])
        self.assertTrue(told)

    def test_one_run_of_weak_cells(self):
        cells = track_cells([filled(1, 5)])
        other = cells[:500] + [1 - bit for bit in cells[500:503]] + cells[503:]
        steady = [at for at in range(500) if cells[at] != other[at]]
        self.assertEqual(steady, [])
        reads = [flux_of(cells, CELL), flux_of(other, CELL)]
        self.assertEqual([fixed_cells(read, CELL) for read in reads], [cells, other])
        self.assertEqual(report(image_with(*reads), (1, 1, 1, 0))[2], "feature weak 500 3")

    def test_long(self):
        """The wanted number of cells is that of all sectors with data."""
        for length, told in ((190, False), (191, True)):
            read = flux_of(track_cells([filled(1, 5)], length=length), CELL)
            lines = report(image_with(read), ONE_TRACK)
            wanted = ["feature long " + str(16 * length)] if told else []
            self.assertEqual(lines[2:-1], wanted)

    def test_the_wanted_number_of_cells(self):
        for geometry in ((1, 1, 1, 0), (1, 1, 2, 1), (1, 1, 40, 0), (1, 1, 1, 5), (1, 2, 7, 3)):
            size = geometry[3]
            count = 10 + geometry[2] * (44 + 16 * 2 ** size)
            for length, told in ((count, []), (count + 1, ["feature long " + str(16 * (count + 1))])):
                read = flux_of(track_cells([filled(1, 5, size=size)], length=length), CELL)
                lines = report(image_with(read), geometry)
                self.assertEqual([line for line in lines if line.startswith("feature")], told)

    def test_all_words_in_order(self):
        sectors = [filled(1, 5), filled(1, 6), filled(2, 7, data_wrong=True), empty(3), filled(9, 1, size=1),
                   filled(7, 2, place=(12, 1))]
        cells = track_cells(sectors)
        turned = list(cells)
        turned[20] = 1 - turned[20]
        reads = [flux_of(cells, CELL), flux_of(turned, CELL)]
        self.track_told(reads, [
            "track 0 0 reads 2 good 1 bad 2", "feature weak 20 1", "feature doubled 0,0,1,0 2",
            "feature wrong data 0,0,2,0", "feature no data 0,0,3,0", "feature long " + str(len(cells)),
            "feature mixed sizes", "feature odd address 12,1,7,0"])

    def test_numbers_of_an_address(self):
        self.track_told([read_of(empty(255, place=(255, 255), size=5))],
                        ["track 0 0 reads 1 good 0 bad 3", "feature no data 255,255,255,5",
                         "feature odd address 255,255,255,5"])

    def test_features_behind_their_track(self):
        tracks = {(0, 0): [read_of(empty(1))], (0, 1): [read_of(filled(1, 5, place=(0, 1), data_wrong=True))]}
        self.told(Image(CELL, "", tracks), (1, 2, 1, 0),
                  ["disc 1 2 1 0", "track 0 0 reads 1 good 0 bad 1", "feature no data 0,0,1,0",
                   "track 0 1 reads 1 good 0 bad 1", "feature wrong data 0,1,1,0", "no blocks"])


FILES = [("ONE", list(range(1, 51))), ("E", []), ("TWO", [171, 205, 9])]


class FilesTest(ReportTest):

    def files_told(self, disc, wanted):
        """The lines on the files of a disc with blocks of 32 bytes."""
        image, geometry = image_with_blocks(blocks_of(disc))
        self.assertEqual([line for line in report(image, geometry)[2:] if not line.startswith("feature")], wanted)

    def test_both_kinds(self):
        wanted = ["file ONE 50 whole", "file E 0 whole", "file TWO 3 whole"]
        self.files_told(make_chains(FILES, 16, 32, 2), ["files chains"] + wanted)
        self.files_told(make_extents(FILES, 16, 32, 4), ["files extents"] + wanted)

    def test_no_files(self):
        self.files_told(make_chains([], 16, 32, 2), ["files chains"])
        self.files_told(make_extents([], 16, 32, 4), ["files extents"])

    def test_damaged_files(self):
        """The data blocks are 5, 6 and 7, and those of the extents likewise."""
        for disc, kind in ((make_chains(FILES, 16, 32, 2), "chains"), (make_extents(FILES, 16, 32, 4), "extents")):
            self.files_told(without(disc, 5), ["files " + kind, "file ONE 50 damaged 32", "file E 0 whole",
                                               "file TWO 3 whole"])
            self.files_told(without(disc, 6), ["files " + kind, "file ONE 50 damaged 18", "file E 0 whole",
                                               "file TWO 3 whole"])
            self.files_told(without(disc, 5, 6, 7), ["files " + kind, "file ONE 50 damaged 50", "file E 0 whole",
                                                     "file TWO 3 damaged 3"])

    def test_several_damaged_runs(self):
        disc = make_chains([("A", [7] * 150)], 15, 32, 2)
        self.files_told(without(disc, 5, 7, 9), ["files chains", "file A 150 damaged 86"])

    def test_files_that_are_not_whole_without_damaged_bytes(self):
        disc = make_chains(FILES, 16, 32, 2)
        self.files_told(edited(disc, 5, 0, [0]), ["files chains", "file ONE 50 damaged 0", "file E 0 whole",
                                                  "file TWO 3 whole"])
        odd = edited(disc, 3, 16 + 8, two(5))
        self.assertEqual(read_chain(odd, "E"), ([], [], "too long", False))
        self.files_told(odd, ["files chains", "file ONE 50 whole", "file E 0 damaged 0", "file TWO 3 whole"])

    def test_chains_that_stop(self):
        disc = edited(make_chains(FILES, 16, 32, 2), 1, 10, [0, 0])
        self.files_told(disc, ["files chains", "file ONE 50 damaged 18", "file E 0 whole", "file TWO 3 whole"])

    def test_no_file_system(self):
        self.files_told(BlockDisc([[1] * 32, [2] * 32, [3] * 32]), ["files none"])
        self.files_told(BlockDisc([None, [2] * 32, [3] * 32]), ["files none"])

    def test_a_missing_head(self):
        self.files_told(without(make_chains(FILES, 16, 32, 2), 0), ["files none"])
        self.files_told(without(make_extents(FILES, 16, 32, 4), 0), ["files none"])

    def test_a_head_that_is_not_right(self):
        """It begins as one of a kind."""
        disc = make_chains(FILES, 16, 32, 2)
        for offset, value in ((2, 1), (3, 15), (4, 2), (5, 0), (5, 21), (5, 14), (6, 1), (31, 1)):
            self.files_told(edited(disc, 0, offset, [value]), ["files none"])
        disc = make_extents(FILES, 16, 32, 4)
        for offset, value in ((2, 1), (3, 15), (4, 0), (4, 16), (4, 21), (5, 1), (31, 1)):
            self.files_told(edited(disc, 0, offset, [value]), ["files none"])

    def test_a_head_of_another_number_of_blocks(self):
        image, _ = image_with_blocks(blocks_of(make_chains(FILES, 16, 32, 2)))
        self.assertEqual(report(image, (1, 1, 15, 1))[-1], "files none")
        self.assertEqual(report(image, (1, 1, 16, 1))[-1], "file TWO 3 whole")

    def test_no_blocks(self):
        tracks = {(0, 0): [read_of(empty(1), empty(2))]}
        self.told(Image(CELL, "", tracks), (1, 1, 2, 0),
                  ["disc 1 1 2 0", "track 0 0 reads 1 good 0 bad 2", "feature no data 0,0,1,0",
                   "feature no data 0,0,2,0", "no blocks"])
        self.told(Image(CELL, "", tracks), (1, 1, 1, 3),
                  ["disc 1 1 1 3", "track 0 0 reads 1 good 0 bad 1", "feature no data 0,0,1,0",
                   "feature no data 0,0,2,0", "no blocks"])

    def test_one_block_that_is_there(self):
        self.told(image_with(read_of(filled(3, 5))), ONE_TRACK,
                  ["disc 1 1 3 0", "track 0 0 reads 1 good 1 bad 2", "files none"])


class GeometryTest(ReportTest):

    def test_geometries_that_are_not_valid(self):
        for geometry in WRONG_GEOMETRIES + ((1, 1, 1, -1), (-1, 1, 1, 0), (10 ** 29, 1, 1, 1)):
            for image in (Image(CELL, "", {}), image_with(read_of(filled(1, 5)))):
                self.refused(InvalidDisc, report, image, geometry)

    def test_the_greatest_geometries(self):
        self.assertEqual(len(report(Image(CELL, "", {}), (100, 2, 10, 5))), 202)
        self.assertEqual(len(report(Image(CELL, "", {}), (50, 1, 40, 0))), 52)


DISC = make_chains([("A", [1, 171]), ("E", []), ("LONG", [at * 5 % 256 for at in range(70)])], 20, 32, 2)
# The data blocks are those from 7 on: two tables of two blocks each, and two blocks of the directory.
IMAGE = image_of(DISC, (2, 2, 5, 1), CELL, "")
FIRST_LINE = "geometry 2 2 5 1"


def hexadecimal(values):
    return "".join(format(value, "02x") for value in values)


class TaskTest(ReportTest):

    def replies(self, lines, wanted, image=IMAGE, first=FIRST_LINE):
        told = run_task(image, "\n".join([first] + lines))
        self.assertEqual(told, wanted)
        self.assertIs(type(told), list)

    def damaged(self, *indexes):
        return image_of(without(DISC, *indexes), (2, 2, 5, 1), CELL, "")

    def bad(self, line):
        """A line has the reply "bad line", and the questions beside it have theirs."""
        self.replies([line], ["bad line"])
        self.replies(["file A", line, "file E"], ["01ab", "bad line", "empty"])

    def test_the_first_line_alone(self):
        self.replies([], [])
        self.replies([""], ["bad line"])

    def test_blocks(self):
        self.replies(["block " + str(index) for index in range(20)],
                     [hexadecimal(DISC.block(index)) for index in range(20)])

    def test_digits(self):
        disc = BlockDisc([list(range(256)) + [255] * 256])
        image = image_of(disc, (1, 1, 1, 5), CELL, "")
        wanted = "".join("0123456789abcdef"[value // 16] + "0123456789abcdef"[value % 16] for value in range(256))
        self.replies(["block 0"], [wanted + "ff" * 256], image, "geometry 1 1 1 5")

    def test_missing_blocks(self):
        self.replies(["block 2", "block 3", "block 19"], [hexadecimal(DISC.block(2)), "missing", "missing"],
                     self.damaged(3, 19))

    def test_blocks_out_of_range(self):
        for number in (20, 21, 99, 1000, 2000, 9999):
            self.bad("block " + str(number))
        self.replies(["block 19", "block 20"], ["missing", "bad line"], self.damaged(19))

    def test_numbers_of_four_digits(self):
        """The image has the last track alone."""
        image = Image(CELL, "", {(49, 0): [read_of(filled(1, 5, place=(49, 0)), filled(40, 171, place=(49, 0)))]})
        self.replies(["block 1960", "block 999", "block 1000", "block 1999", "block 2000"],
                     ["05" * 16, "missing", "missing", "ab" * 16, "bad line"], image, "geometry 50 1 40 0")

    def test_numbers_of_other_forms(self):
        for number in ("00", "01", "0001", "10000", "00000", "12345", "+1", "-1", "-0", "1.0", "x", "0x1", "1e1", "1_0",
                       "", " ", "1 ", " 1", "1 2", "A", "9" * 5000, "ten", "1-", "1,"):
            self.bad("block " + number)

    def test_files(self):
        self.replies(["file A", "file LONG", "file E"],
                     ["01ab", hexadecimal([at * 5 % 256 for at in range(70)]), "empty"])

    def test_files_of_extents(self):
        files = [("A", [1, 171]), ("E", []), ("LONG", list(range(200)))]
        image, geometry = image_with_blocks(blocks_of(make_extents(files, 30, 32, 8)))
        self.replies(["file A", "file E", "file LONG", "file B"],
                     ["01ab", "empty", hexadecimal(list(range(200))), "no file"], image, "geometry 1 1 30 1")

    def test_damaged_files(self):
        values = [at * 5 % 256 for at in range(70)]
        self.assertEqual(read_chain(without(DISC, 9), "LONG")[1], [(32, 32)])
        self.replies(["file LONG", "file A"], [hexadecimal(values[:32] + [0] * 32 + values[64:]), "01ab"],
                     self.damaged(9))
        self.replies(["file A"], ["0000"], self.damaged(7))

    def test_unknown_files(self):
        self.replies(["file B", "file ABCDEFGH", "file LON", "file LONGER"], ["no file"] * 4)
        self.assertEqual(chain_files(without(DISC, 5)), ["LONG"])
        self.replies(["file A", "file LONG"], ["no file", hexadecimal([at * 5 % 256 for at in range(70)])],
                     self.damaged(5))

    def test_names_that_are_none(self):
        for name in ("a", "ABCDEFGHI", "A-", "A.B", "long", "*", "?", "/", "\"A\"", "A,E"):
            self.replies(["file " + name], ["no file"])

    def test_no_file_system(self):
        for image in (self.damaged(0), image_of(BlockDisc([[5] * 32] * 20), (2, 2, 5, 1), CELL, "")):
            self.replies(["file A", "file E", "file a", "file B"], ["no file"] * 4, image)
        odd = image_of(edited(DISC, 0, 3, [19]), (2, 2, 5, 1), CELL, "")
        self.replies(["file A", "block 1"], ["no file", hexadecimal(DISC.block(1))], odd)

    def test_all_blocks_missing(self):
        self.replies(["block 0", "block 19", "block 20", "file A", "report"],
                     ["missing", "missing", "bad line", "no file", " / ".join(report(Image(CELL, "", {}), (2, 2, 5, 1)))],
                     Image(CELL, "", {}))

    def test_reports(self):
        self.replies(["report"], [" / ".join(report(IMAGE, (2, 2, 5, 1)))])
        self.replies(["report", "block 99", "report"], [" / ".join(report(IMAGE, (2, 2, 5, 1))), "bad line",
                                                        " / ".join(report(IMAGE, (2, 2, 5, 1)))])
        self.replies(["report"], [
            "disc 2 2 5 1 / track 0 0 reads 1 good 5 bad 0 / track 0 1 reads 1 good 5 bad 0 / "
            "track 1 0 reads 1 good 5 bad 0 / track 1 1 reads 1 good 5 bad 0 / "
            "files chains / file A 2 whole / file E 0 whole / file LONG 70 whole"])

    def test_a_report_through_another_geometry(self):
        image = image_with(read_of(filled(1, 5)))
        self.replies(["report"], ["disc 1 1 1 0 / track 0 0 reads 1 good 1 bad 0 / files none"], image,
                     "geometry 1 1 1 0")

    def test_other_words(self):
        for line in ("", " ", "x", "blocks 1", "Block 1", "BLOCK 1", "block", "file", "files A", "File A", "FILE A",
                     "Report", "REPORT", "reports", "report 1", "report A", "geometry 2 2 5 1", "geometry", "1", "A",
                     "block1", "fileA", "lock 1", "block A", "block one", "disc 2 2 5 1", "quit"):
            self.bad(line)

    def test_spaces(self):
        for line in (" block 1", "block  1", "block 1 ", "block 1  ", "  block 1", " file A", "  file A", " report",
                     "report ", "report  ", "  report", "block ", "block  ", "file  A", "file A ", "file A  ", "file A E",
                     "block 1 1"):
            self.bad(line)

    def test_empty_lines(self):
        self.replies(["", "file A", "", ""], ["bad line", "01ab", "bad line", "bad line"])

    def test_the_image_stays(self):
        image = image_of(DISC, (2, 2, 5, 1), CELL, "")
        run_task(image, FIRST_LINE + "\nreport\nfile A\nblock 0")
        self.assertTrue(image == IMAGE)


class FirstLineTest(ReportTest):

    def invalid(self, line):
        for text in (line, line + "\n", line + "\nreport", line + "\nfile A\nblock 0"):
            for image in (IMAGE, Image(CELL, "", {})):
                self.refused(InvalidTask, run_task, image, text)

    def test_right_ones(self):
        for geometry in ((1, 1, 1, 0), (100, 2, 10, 5), (1, 2, 40, 3), (50, 1, 40, 0)):
            line = "geometry " + " ".join(str(number) for number in geometry)
            self.assertEqual(run_task(Image(CELL, "", {}), line), [])
            self.assertEqual(run_task(Image(CELL, "", {}), line + "\nblock 0"), ["missing"])

    def test_other_forms(self):
        for line in ("", " ", "geometry", "geometry 2 2 5", "geometry 2 2 5 1 1", "Geometry 2 2 5 1", "GEOMETRY 2 2 5 1",
                     "2 2 5 1", "geometries 2 2 5 1", "disc 2 2 5 1", "geometry 2,2,5,1", "geometry2 2 5 1", "report",
                     "block 0", "geometry 2 2 5 x", "geometry x 2 5 1", "geometry 2 2 5 1x", "geometry -2 2 5 1",
                     "geometry +2 2 5 1", "geometry 2 2 5 1.0", "geometry 2 2 5 0x1"):
            self.invalid(line)

    def test_spaces(self):
        for line in (" geometry 2 2 5 1", "geometry  2 2 5 1", "geometry 2  2 5 1", "geometry 2 2 5 1 ",
                     "geometry 2 2 5  1", "geometry 2 2 5 ", "geometry  2 2 5", "geometry 2 2 51", "\ngeometry 2 2 5 1"):
            self.invalid(line)

    def test_zeros_in_front(self):
        for line in ("geometry 02 2 5 1", "geometry 2 02 5 1", "geometry 2 2 05 1", "geometry 2 2 5 01",
                     "geometry 2 2 5 00", "geometry 0002 2 5 1"):
            self.invalid(line)

    def test_five_digits(self):
        for line in ("geometry 10000 2 5 1", "geometry 2 2 5 10000", "geometry 00002 2 5 1", "geometry 2 2 5 00001"):
            self.invalid(line)

    def test_geometries_that_are_not_valid(self):
        for geometry in WRONG_GEOMETRIES:
            self.invalid("geometry " + " ".join(str(number) for number in geometry))

    def test_a_right_line_behind_a_wrong_one(self):
        self.refused(InvalidTask, run_task, IMAGE, "report\n" + FIRST_LINE)


if __name__ == "__main__":
    unittest.main()
