"""The examples of the interface, as they stand but for one."""

import doctest
import pathlib
import unittest

from discwright.chains import make_chains
from discwright.errors import InvalidFiles

BYTEWORK = """
>>> from discwright.bytework import crc, parity
>>> [crc([]), crc([49, 50, 51]), parity([[1, 255], [3, 15]])]
[65535, 23502, [2, 240]]
"""

FLUX = """
>>> from discwright.flux import Read, flux_of, fixed_cells, following_cells
>>> read = flux_of([0, 1, 0, 0, 1, 0], 100)
>>> [read.intervals, read.rest, fixed_cells(Read([230, 271], 60), 100), following_cells(Read([230, 340], 60), 100)]
[(200, 300), 100, [0, 1, 0, 0, 1, 0], [0, 1, 0, 0, 1, 0]]
"""

ENCODINGS = """
>>> from discwright.encodings import mfm_cells, read_mfm, gcr_code
>>> [mfm_cells([161])[:8], read_mfm(mfm_cells([161, 0])), gcr_code(0)]
[[0, 1, 0, 0, 0, 1, 0, 0], ([161, 0], []), [0, 1, 0, 0, 1]]
"""

TRACKS = """
>>> from discwright.tracks import Sector, track_cells, found_sectors
>>> cells = track_cells([Sector((0, 1, 3, 0), list(range(16)))])
>>> [(place, address, address_good, data[:3], data_good) for place, address, address_good, data, data_good in found_sectors(cells)]
[(256, (0, 1, 3, 0), True, (0, 1, 2), True)]
"""

IMAGES = """
>>> from discwright.flux import Read
>>> from discwright.images import Image, image_bytes, read_image
>>> image = Image(100, "a", {(0, 1): [Read([200, 300, 200], 7)]})
>>> [image_bytes(image)[:7], read_image(image_bytes(image))[0] == image, read_image(image_bytes(image))[1]]
[[68, 87, 73, 100, 1, 97, 1], True, []]
"""

MERGING = """
>>> from discwright.tracks import Sector, track_cells
>>> from discwright.flux import flux_of
>>> from discwright.merging import outcomes
>>> right = flux_of(track_cells([Sector((0, 0, 1, 0), [7] * 16)]), 50)
>>> wrong = flux_of(track_cells([Sector((0, 0, 1, 0), [9] * 16, data_wrong=True)]), 50)
>>> [outcomes([wrong, right], 50)[0][1][0], outcomes([wrong], 50)]
['good', [(((0, 0, 1, 0), 0), ('lost',))]]
"""

PROTECTION = """
>>> from discwright.tracks import Sector, track_cells
>>> from discwright.flux import flux_of
>>> from discwright.protection import features
>>> twice = track_cells([Sector((0, 0, 1, 0), [7] * 16), Sector((0, 0, 1, 0), [8] * 16)])
>>> features((0, 0), [flux_of(twice, 50)], 50, 9999)
[('doubled', (0, 0, 1, 0), 2)]
"""

BLOCKDISCS = """
>>> from discwright.blockdiscs import BlockDisc, disc_of, image_of
>>> disc = BlockDisc([[1] * 16, None, [3] * 16, [4] * 16])
>>> disc_of(image_of(disc, (2, 1, 2, 0), 50, ""), (2, 1, 2, 0)) == disc
True
"""

# The document's example also puts an empty file TWO on this disc, whose directory of one block of 16 bytes has room
# for one entry of 16 bytes. By points 30 and 31 and by what the interface says of InvalidFiles, that is refused, so
# the example stands here with its first file alone. What it shows is the same.
CHAINS = """
>>> from discwright.chains import make_chains, read_chain, is_sound
>>> disc = make_chains([("ONE", list(range(20)))], 8, 16, 1)
>>> [is_sound(disc), read_chain(disc, "ONE")[1:], read_chain(disc.with_block(5, None), "ONE")[1:]]
[True, ([], '', True), ([(16, 4)], '', False)]
"""

EXTENTS = """
>>> from discwright.extents import make_extents, read_extent, delete_file, deleted_files, bring_back
>>> disc = make_extents([("ONE", list(range(40)))], 8, 32, 1)
>>> gone = delete_file(disc, "ONE")
>>> [read_extent(disc, "ONE")[1:], deleted_files(gone), bring_back(gone, "ONE") == disc]
[([], '', True), ['ONE'], True]
"""

UNKNOWNS = """
>>> from discwright.bytework import crc
>>> from discwright.unknowns import solution, solution_count
>>> [solution([0, 50, 0], [3, 10, 23], crc([16, 50, 1])), solution_count([0, 50, 0], [3, 10, 23], 65535)]
[[16, 50, 1], 0]
"""

REPAIRS = """
>>> from discwright.bytework import crc
>>> from discwright.blockdiscs import BlockDisc
>>> from discwright.repairs import Case, found_repairs
>>> true = [[1] * 16, [2] * 16, [3] * 16]
>>> case = Case(BlockDisc([[1] * 16, [2] * 15 + [6], None]), [], [(0, 1, 2)], {1: crc([2] * 16)})
>>> [(index, values[-1], certificate) for index, values, certificate in found_repairs(case)]
[(1, 2, ('crc', (125,))), (2, 3, ('parity', 0))]
"""

CARTRIDGES = """
>>> from discwright.cartridges import true_length, merged
>>> [true_length([1, 2] * 16), true_length(list(range(32)) + [9] * 32), merged([[1, 2], [1, 3], [4, 5]])]
[16, 48, [1, None]]
"""

PATCHES = """
>>> from discwright.patches import difference, patch_bytes
>>> patch = difference([1, 2, 3, 4], [1, 9, 9, 4])
>>> [patch.changes, patch.opposite().apply([1, 9, 9, 4]), patch_bytes(patch)[:6]]
[((1, (2, 3), (9, 9)),), [1, 2, 3, 4], [80, 65, 1, 1, 2, 2]]
"""

ARCHIVES = """
>>> from discwright.archives import Archive, right_lines, audit
>>> archive = Archive()
>>> archive.put("ONE", [1, 2, 3])
>>> [right_lines(archive.log()), audit({"ONE": [1, 2, 4]}, archive.log())]
[1, ([], [], ['ONE'])]
"""

NOISE = """
>>> from discwright.flux import Read
>>> from discwright.noise import jittered, at_speed, scratched
>>> read = Read([200, 300, 200], 90)
>>> [jittered(read, [5, -7]).intervals, at_speed(read, 11, 10).intervals, scratched(read, 0, 1).intervals]
[(205, 293, 205), (220, 330, 220), (500, 200)]
"""

MENDING = """
>>> from discwright.chains import make_chains, is_sound
>>> from discwright.mending import mended_chains
>>> disc = make_chains([("ONE", list(range(40)))], 10, 16, 1).with_block(6, None)
>>> better, told = mended_chains(disc)
>>> [is_sound(better), told]
[True, [('ONE', 24, 16)]]
"""

CONVERSION = """
>>> from discwright.chains import make_chains
>>> from discwright.conversion import converted, compared
>>> disc = make_chains([("ONE", [1, 2, 3]), ("TWO", [9])], 10, 16, 2)
>>> other, names = converted(disc, "extents", 6, 32, 2)
>>> [names, compared(disc, other)]
[[], [('ONE', 'same'), ('TWO', 'same')]]
"""

REPORTS = """
>>> from discwright.blockdiscs import image_of
>>> from discwright.chains import make_chains
>>> from discwright.reports import report, run_task
>>> image = image_of(make_chains([("A", [1, 171])], 6, 16, 1), (1, 1, 6, 0), 50, "")
>>> [report(image, (1, 1, 6, 0)), run_task(image, "geometry 1 1 6 0\\nfile A\\nfile B\\nblock 9")]
[['disc 1 1 6 0', 'track 0 0 reads 1 good 6 bad 0', 'files chains', 'file A 2 whole'], ['01ab', 'no file', 'bad line']]
"""

GROUPTRACKS = """
>>> from discwright.grouptracks import group_cells, found_groups
>>> cells = group_cells([((18, 3, 65, 66), list(range(16)))], 0)
>>> [(place, address, good, data[:2], right) for place, address, good, data, right in found_groups(cells, 0)]
[(92, (18, 3, 65, 66), True, (0, 1), True)]
"""

TRACKTEXTS = """
>>> from discwright.tracktexts import read_track_text, track_text, sectors_of
>>> from discwright.tracks import track_cells
>>> text = "sector 0 0 1 0 229\\nwrong data\\nempty 0 0 2 0\\nweak 40 8"
>>> sectors, runs, length = read_track_text(text)
>>> [track_text(sectors, runs, length) == text, sectors_of(track_cells(sectors)) == sectors]
[True, True]
"""

OLDIMAGES = """
>>> from discwright.flux import Read
>>> from discwright.images import Image, image_bytes
>>> from discwright.oldimages import old_bytes, migrated
>>> image = Image(100, "", {(0, 0): [Read([200, 300], 5)]})
>>> [old_bytes(image)[:7], migrated(old_bytes(image)) == image_bytes(image)]
[[68, 87, 48, 0, 100, 0, 1], True]
"""


class ExamplesTest(unittest.TestCase):

    def run_example(self, text):
        example = doctest.DocTestParser().get_doctest(text, {}, "example", None, 0)
        told = []
        result = doctest.DocTestRunner().run(example, out=told.append)
        self.assertEqual(result.failed, 0, "".join(told))

    def test_the_readme(self):
        """Its examples stand between lines of three backquotes, and follow each other."""
        text = pathlib.Path(__file__).parent.parent.joinpath("README.md").read_text("utf-8")
        examples = "\n".join(text.split("```\n")[1::2])
        self.assertIn("run_task", examples)
        self.run_example(examples)

    def test_bytework(self):
        self.run_example(BYTEWORK)

    def test_flux(self):
        self.run_example(FLUX)

    def test_encodings(self):
        self.run_example(ENCODINGS)

    def test_tracks(self):
        self.run_example(TRACKS)

    def test_images(self):
        self.run_example(IMAGES)

    def test_merging(self):
        self.run_example(MERGING)

    def test_protection(self):
        self.run_example(PROTECTION)

    def test_blockdiscs(self):
        self.run_example(BLOCKDISCS)

    def test_chains(self):
        self.run_example(CHAINS)

    def test_chains_with_two_files(self):
        """The document's example with its second file, for which the directory has no room."""
        with self.assertRaises(InvalidFiles):
            make_chains([("ONE", list(range(20))), ("TWO", [])], 8, 16, 1)

    def test_extents(self):
        self.run_example(EXTENTS)

    def test_unknowns(self):
        self.run_example(UNKNOWNS)

    def test_repairs(self):
        self.run_example(REPAIRS)

    def test_cartridges(self):
        self.run_example(CARTRIDGES)

    def test_patches(self):
        self.run_example(PATCHES)

    def test_archives(self):
        self.run_example(ARCHIVES)

    def test_noise(self):
        self.run_example(NOISE)

    def test_mending(self):
        self.run_example(MENDING)

    def test_conversion(self):
        self.run_example(CONVERSION)

    def test_reports(self):
        self.run_example(REPORTS)

    def test_grouptracks(self):
        self.run_example(GROUPTRACKS)

    def test_tracktexts(self):
        self.run_example(TRACKTEXTS)

    def test_oldimages_and_collections(self):
        self.run_example(OLDIMAGES)


if __name__ == "__main__":
    unittest.main()
