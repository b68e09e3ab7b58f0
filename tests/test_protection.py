"""Points 25 to 27: discwright/protection.py."""

import random
import unittest

from discwright.errors import DifferentLengths, DiscError, InvalidCell, InvalidSector
from discwright.flux import Read, flux_of
from discwright.images import Image, image_bytes, read_image
from discwright.protection import features, protected_cells
from discwright.tracks import Sector, track_cells
from tests.models import model_field

CELL = 50
PLENTY = 10 ** 6
ADDRESS = (0, 0, 1, 0)
OTHER = (0, 0, 2, 0)


def good(address=ADDRESS, value=7):
    return Sector(address, [value] * (16 << address[3]))


def wrong(address=ADDRESS, value=7):
    return Sector(address, [value] * (16 << address[3]), data_wrong=True)


def empty(address=ADDRESS):
    return Sector(address, None)


def hidden(address=ADDRESS, value=7):
    """A sector whose address is not good."""
    return Sector(address, [value] * (16 << address[3]), address_wrong=True)


def read_of(*sectors):
    return flux_of(track_cells(list(sectors)), CELL)


def changed(cells, *places):
    """Cells of which those at the places are the other bit."""
    return [1 - bit if at in places else bit for at, bit in enumerate(cells)]


class FeaturesTest(unittest.TestCase):

    def told(self, reads, wanted=PLENTY, place=(0, 0)):
        return features(place, reads, CELL, wanted)

    def told_of_cells(self, *lists):
        return self.told([flux_of(cells, CELL) for cells in lists])

    def test_none(self):
        for reads in ([read_of()], [read_of(good())], [read_of(good(), good(OTHER))] * 3, [Read([], 0)]):
            self.assertEqual(self.told(reads), [])

    def test_the_kinds_of_values(self):
        told = self.told([read_of(empty((0, 1, 1, 0)))], 5)
        self.assertIs(type(told), list)
        for feature in told:
            self.assertIs(type(feature), tuple)
        self.assertIs(type(told[0][1]), tuple)


class WeakTest(FeaturesTest):

    def test_one_read_has_none(self):
        self.assertEqual(self.told_of_cells([0, 1, 0, 1]), [])

    def test_reads_that_are_equal(self):
        self.assertEqual(self.told_of_cells([0, 1, 0], [0, 1, 0], [0, 1, 0]), [])

    def test_one_place(self):
        cells = [0, 1, 0, 0, 1, 0]
        for place in range(6):
            self.assertEqual(self.told_of_cells(cells, changed(cells, place)), [("weak", place, 1)])
            self.assertEqual(self.told_of_cells(changed(cells, place), cells, cells), [("weak", place, 1)])
            self.assertEqual(self.told_of_cells(cells, cells, changed(cells, place)), [("weak", place, 1)])

    def test_runs(self):
        cells = [0, 1, 0, 0, 1, 0, 0, 1]
        self.assertEqual(self.told_of_cells(cells, changed(cells, 0, 1, 2)), [("weak", 0, 3)])
        self.assertEqual(self.told_of_cells(cells, changed(cells, 5, 6, 7)), [("weak", 5, 3)])
        self.assertEqual(self.told_of_cells(cells, changed(cells, *range(8))), [("weak", 0, 8)])
        self.assertEqual(self.told_of_cells(cells, changed(cells, 0, 2, 3, 5)),
                         [("weak", 0, 1), ("weak", 2, 2), ("weak", 5, 1)])
        self.assertEqual(self.told_of_cells(cells, changed(cells, 0, 7)), [("weak", 0, 1), ("weak", 7, 1)])

    def test_one_run_of_several_reads(self):
        cells = [0, 1, 0, 0, 1, 0, 0, 1]
        lists = [changed(cells, 2), cells, changed(cells, 3, 4), changed(cells, 5)]
        self.assertEqual(self.told_of_cells(*lists), [("weak", 2, 4)])

    def test_up_to_the_length_of_the_shortest_read(self):
        self.assertEqual(self.told_of_cells([0, 1, 0, 0], [0, 1, 1, 1, 1, 1]), [("weak", 2, 2)])
        self.assertEqual(self.told_of_cells([0, 1], [0, 1, 1, 1]), [])
        self.assertEqual(self.told_of_cells([0, 1, 1], []), [])

    def test_the_cells_are_those_of_the_fixed_clock(self):
        read = Read([100, 150, 200], 50)
        self.assertEqual(self.told([read, Read([76, 174, 224], 26)]), [])
        self.assertEqual(self.told([read, Read([74, 176, 200], 50)]), [("weak", 0, 2)])

    def test_many_runs(self):
        source = random.Random(25)
        for _ in range(50):
            lists = [[source.randrange(2) for _ in range(30)] for _ in range(2)]
            weak = [at for at in range(30) if lists[0][at] != lists[1][at]]
            told = self.told_of_cells(*lists)
            self.assertEqual([at for word, place, count in told for at in range(place, place + count)], weak)
            for (_, place, count), (_, behind, _) in zip(told, told[1:]):
                self.assertLess(place + count, behind)


class SectorFeaturesTest(FeaturesTest):

    def test_a_doubled_address(self):
        self.assertEqual(self.told([read_of(good(), good(value=8))]), [("doubled", ADDRESS, 2)])
        self.assertEqual(self.told([read_of(good(), good(OTHER), good(), good())]), [("doubled", ADDRESS, 3)])

    def test_the_greatest_number_over_all_reads(self):
        one, two, three = read_of(good()), read_of(good(), good()), read_of(good(), good(), good())
        words = [("doubled", ADDRESS, 2)]
        for reads in ([one, two], [two, one], [two, two], [read_of(), two, one, two]):
            self.assertEqual([told for told in self.told(reads) if told[0] == "doubled"], words)
        for reads in ([one, two, three], [three, two, one], [two, three, two]):
            self.assertEqual([told for told in self.told(reads) if told[0] == "doubled"], [("doubled", ADDRESS, 3)])
        self.assertEqual([told for told in self.told([one, one, one]) if told[0] == "doubled"], [])

    def test_doubled_places_need_not_have_good_data(self):
        self.assertIn(("doubled", ADDRESS, 3), self.told([read_of(good(), wrong(), empty())]))

    def test_only_good_places_are_doubled(self):
        self.assertEqual(self.told([read_of(good(), hidden())]), [])
        self.assertEqual(self.told([read_of(good(), hidden(), good())]), [("doubled", ADDRESS, 2)])
        self.assertEqual(self.told([read_of(hidden(), hidden())]), [])

    def test_wrong_data(self):
        self.assertEqual(self.told([read_of(wrong())]), [("wrong data", ADDRESS)])
        self.assertEqual(self.told([read_of(wrong(), good(OTHER))] * 2), [("wrong data", ADDRESS)])
        self.assertEqual(self.told([read_of(good()), read_of(wrong(OTHER)), read_of()][:2])[-1], ("wrong data", OTHER))

    def test_data_that_are_good_in_one_read_alone(self):
        for reads in ([read_of(good()), read_of(wrong())], [read_of(wrong()), read_of(wrong()), read_of(good())]):
            self.assertEqual([told for told in self.told(reads) if told[0] != "weak"], [])

    def test_data_that_are_good_at_one_place_alone(self):
        self.assertEqual(self.told([read_of(wrong(), good())]), [("doubled", ADDRESS, 2)])
        self.assertEqual(self.told([read_of(wrong(), wrong())]), [("doubled", ADDRESS, 2), ("wrong data", ADDRESS)])
        self.assertEqual(self.told([read_of(wrong(), empty())]), [("doubled", ADDRESS, 2), ("wrong data", ADDRESS)])

    def test_no_data(self):
        self.assertEqual(self.told([read_of(empty())]), [("no data", ADDRESS)])
        self.assertEqual(self.told([read_of(good(), empty(OTHER))] * 2), [("no data", OTHER)])
        self.assertEqual(self.told([read_of(empty(), empty())]), [("doubled", ADDRESS, 2), ("no data", ADDRESS)])

    def test_an_address_without_data_in_some_reads(self):
        for sectors, words in (
            ([empty(), good()], []), ([good(), empty()], []), ([empty(), wrong(), empty()], ["wrong data"]),
            ([wrong(), empty()], ["wrong data"]), ([empty(), wrong(), good()], []),
        ):
            told = self.told([read_of(sector) for sector in sectors])
            self.assertEqual([feature[0] for feature in told if feature[0] != "weak"], words)

    def test_an_address_that_is_not_found_in_some_reads(self):
        for sector, word in ((wrong(), "wrong data"), (empty(), "no data")):
            told = self.told([read_of(), read_of(sector)])
            self.assertEqual([feature for feature in told if feature[0] != "weak"], [(word, ADDRESS)])

    def test_addresses_that_are_not_good_are_not_looked_at(self):
        lost = Sector((7, 1, 9, 3), None, address_wrong=True)
        wrong_both = Sector((7, 1, 9, 2), [5] * 64, address_wrong=True, data_wrong=True)
        self.assertEqual(self.told([read_of(lost, lost, wrong_both, wrong_both, good())]), [])
        self.assertEqual(self.told([read_of(wrong_both, empty())]), [("no data", ADDRESS)])

    def test_data_of_an_address_that_is_not_good_do_not_count(self):
        reads = [read_of(hidden(), wrong()), read_of(hidden(), wrong())]
        self.assertEqual(self.told(reads), [("wrong data", ADDRESS)])
        self.assertEqual(self.told([read_of(hidden(), empty())]), [("no data", ADDRESS)])


class TrackFeaturesTest(FeaturesTest):

    def test_as_many_cells_as_wanted_and_one_more(self):
        read = read_of(good())
        cells = track_cells([good()])
        self.assertEqual(self.told([read], len(cells)), [])
        self.assertEqual(self.told([read], len(cells) + 1), [])
        self.assertEqual(self.told([read], len(cells) - 1), [("long", len(cells))])
        self.assertEqual(self.told([flux_of(cells + [0], CELL)], len(cells)), [("long", len(cells) + 1)])
        self.assertEqual(self.told([flux_of(cells + [0, 1], CELL)], len(cells)), [("long", len(cells) + 2)])
        self.assertEqual(self.told([read], 0), [("long", len(cells))])

    def test_the_longest_read(self):
        for lengths in ((4, 9, 6), (9, 4), (9, 9), (1, 2, 9)):
            reads = [Read([], CELL * length) for length in lengths]
            self.assertEqual(self.told(reads, 8), [("long", 9)])
            self.assertEqual(self.told(reads, 9), [])

    def test_mixed_sizes(self):
        self.assertEqual(self.told([read_of(good(), good((0, 0, 2, 1)))]), [("mixed sizes",)])
        self.assertEqual(self.told([read_of(good((0, 0, 1, 3)), good((0, 0, 2, 3)))]), [])
        told = self.told([read_of(good()), read_of(good((0, 0, 1, 1)))])
        self.assertEqual([feature for feature in told if feature[0] != "weak"], [("mixed sizes",)])
        told = self.told([read_of(empty((0, 0, 1, 0)), empty((0, 0, 1, 1)), empty((0, 0, 1, 2)))])
        self.assertEqual([feature[0] for feature in told], ["no data"] * 3 + ["mixed sizes"])

    def test_odd_addresses(self):
        for address in ((1, 0, 1, 0), (0, 1, 1, 0), (5, 7, 1, 0), (255, 255, 255, 0)):
            self.assertEqual(self.told([read_of(good(address))]), [("odd address", address)])
        self.assertEqual(self.told([read_of(good((5, 1, 1, 0)))], place=(5, 1)), [])
        self.assertEqual(self.told([read_of(good((1, 5, 1, 0)))], place=(5, 1)), [("odd address", (1, 5, 1, 0))])

    def test_an_odd_address_is_told_once(self):
        odd = good((3, 0, 1, 0))
        self.assertEqual(self.told([read_of(odd), read_of(odd), read_of(odd)]), [("odd address", (3, 0, 1, 0))])

    def test_an_address_with_a_size_above_5(self):
        cells = [0] * 32 + model_field([254, 0, 0, 1, 6]) + [0] * 32
        self.assertEqual(self.told([flux_of(cells, CELL)]), [("no data", (0, 0, 1, 6))])

    def test_a_size_above_5_is_another_size(self):
        cells = track_cells([good()]) + model_field([254, 0, 0, 2, 200]) + [0] * 32
        self.assertEqual(self.told([flux_of(cells, CELL)]), [("no data", (0, 0, 2, 200)), ("mixed sizes",)])


class OrderTest(FeaturesTest):

    def test_all_seven(self):
        sectors = [
            good((4, 0, 1, 1)), wrong((0, 0, 9, 0)), empty((0, 0, 8, 0)), good((0, 0, 3, 0)), good((0, 0, 3, 0)),
        ]
        cells = track_cells(sectors)
        reads = [flux_of(cells, CELL), flux_of(cells[:-2] + [1 - cells[-2], cells[-1]], CELL)]
        self.assertEqual(features((0, 0), reads, CELL, 100), [
            ("weak", len(cells) - 2, 1), ("doubled", (0, 0, 3, 0), 2), ("wrong data", (0, 0, 9, 0)),
            ("no data", (0, 0, 8, 0)), ("long", len(cells)), ("mixed sizes",), ("odd address", (4, 0, 1, 1)),
        ])

    def test_those_of_one_word_ascend(self):
        addresses = [(9, 0, 1, 0), (0, 1, 10, 0), (0, 1, 9, 0), (0, 1, 9, 1), (10, 0, 0, 0)]
        ascending = [(0, 1, 9, 0), (0, 1, 9, 1), (0, 1, 10, 0), (9, 0, 1, 0), (10, 0, 0, 0)]
        for kind, word in ((wrong, "wrong data"), (empty, "no data")):
            told = self.told([read_of(*[kind(address) for address in addresses])])
            self.assertEqual([feature for feature in told if feature[0] == word], [(word, one) for one in ascending])
            self.assertEqual(told[-5:], [("odd address", address) for address in ascending])
        told = self.told([read_of(*[good(address) for address in addresses * 2 + addresses[:2]])])
        self.assertEqual(told[:5], [("doubled", one, 3 if one in addresses[:2] else 2) for one in ascending])

    def test_doubled_addresses_of_several_reads_ascend(self):
        reads = [read_of(good(OTHER), good(OTHER)), read_of(good(ADDRESS), good(ADDRESS), good(ADDRESS))]
        told = [feature for feature in self.told(reads) if feature[0] != "weak"]
        self.assertEqual(told, [("doubled", ADDRESS, 3), ("doubled", OTHER, 2)])


class FeaturesErrorsTest(FeaturesTest):

    def refused(self, error, reads, cell):
        with self.assertRaises(DiscError) as caught:
            features((0, 0), reads, cell, 100)
        self.assertIs(type(caught.exception), error)

    def test_no_read(self):
        self.refused(DifferentLengths, [], CELL)
        self.refused(DifferentLengths, [], 10)

    def test_lengths_of_a_cell(self):
        for cell in (9, 1001, 0, -50):
            self.refused(InvalidCell, [read_of(good())], cell)
        for cell in (10, 1000):
            cells = track_cells([empty()])
            self.assertEqual(features((0, 0), [flux_of(cells, cell)], cell, len(cells)), [("no data", ADDRESS)])

    def test_which_error_comes_first(self):
        for cell in (9, 1001):
            self.refused(InvalidCell, [], cell)

    def test_nothing_is_changed(self):
        reads = [read_of(wrong()), read_of(good())]
        features((0, 0), reads, CELL, 10).append(1)
        self.assertEqual(reads, [read_of(wrong()), read_of(good())])


def model_protected(cells, runs, number):
    """Point 26, step by step."""
    cells = list(cells)
    for place, count in runs:
        for index in range(min(count, len(cells))):
            at = place + index
            wanted = (number * 29 + index * 13) % 256 // 2 ** (index % 8) % 2
            if wanted == 1 and 0 < at < len(cells) - 1 and cells[at - 1] == cells[at] == cells[at + 1] == 0:
                cells[at] = 1
    return cells


class ProtectedTest(unittest.TestCase):

    def made(self, sectors, runs, number, length=0):
        cells = protected_cells(sectors, runs, number, length=length)
        plain = track_cells(sectors, length=length)
        self.assertEqual(cells, model_protected(plain, runs, number))
        self.assertIs(type(cells), list)
        return cells

    def test_no_runs(self):
        for number in (0, 1, 77):
            self.assertEqual(protected_cells([good()], [], number), track_cells([good()]))
            self.assertEqual(protected_cells([], [], number, length=30), track_cells([], length=30))

    def test_known_cells(self):
        plain = track_cells([empty()])
        zeros = [at for at in range(1, len(plain) - 1) if plain[at - 1:at + 2] == [0, 0, 0]]
        self.assertTrue(zeros)
        for at in zeros:
            cells = protected_cells([empty()], [(at, 1)], 1)
            self.assertEqual(cells, changed(plain, at))
            self.assertEqual(protected_cells([empty()], [(at, 1)], 0), plain)
            self.assertEqual(protected_cells([empty()], [(at, 1)], 2), plain)

    def test_the_pattern(self):
        """With a run that begins before a place, the index decides which reads change it."""
        plain = track_cells([empty()])
        at = [at for at in range(1, len(plain) - 1) if plain[at - 1:at + 2] == [0, 0, 0]][0]
        for index in range(20):
            for number in range(12):
                bit = (number * 29 + index * 13) % 256 >> (index % 8) & 1
                cells = protected_cells([empty()], [(at - index, index + 1)], number)
                self.assertEqual(cells[at], bit, (index, number))

    def test_only_a_0_between_two_cells_0_is_changed(self):
        plain = track_cells([good(value=0), empty(OTHER)])
        for number in range(8):
            cells = self.made([good(value=0), empty(OTHER)], [(0, len(plain))], number)
            for at, (bit, before) in enumerate(zip(cells, plain)):
                if bit != before:
                    self.assertEqual([before, bit], [0, 1])
                    self.assertEqual(plain[at - 1:at + 2], [0, 0, 0])
                    self.assertEqual(cells[at - 1:at + 2], [0, 1, 0])

    def test_any_runs(self):
        source = random.Random(26)
        for _ in range(60):
            sectors = [empty((0, 0, 1, 0)), good((0, 0, 2, 0), source.randrange(256))][:source.randrange(3)]
            length = source.randrange(20, 120)
            count = len(track_cells(sectors, length=length))
            runs = [(source.randrange(count + 20), source.randrange(300)) for _ in range(source.randrange(5))]
            self.made(sectors, runs, source.randrange(300), length)

    def test_runs_that_overlap_and_their_order(self):
        sectors = [empty(), empty(OTHER)]
        plain = track_cells(sectors)
        zeros = [at for at in range(1, len(plain) - 1) if plain[at - 1:at + 2] == [0, 0, 0]]
        first, last = zeros[0], zeros[-1]
        runs = [(first - 3, 100), (first - 2, 200), (last - 5, 6), (first, last), (0, len(plain))]
        for number in range(10):
            self.made(sectors, runs, number)
            self.made(sectors, runs[::-1], number)
            self.made(sectors, runs[1:3] * 2, number)

    def test_no_two_cells_1_side_by_side(self):
        sectors = [Sector((0, 0, 1, 0), [0] * 16, data_wrong=True)]
        plain = track_cells(sectors)
        for number in range(256):
            cells = self.made(sectors, [(0, len(plain)), (1, len(plain)), (2, len(plain))], number)
            self.assertNotIn((1, 1), list(zip(cells, cells[1:])))

    def test_runs_of_no_cells(self):
        plain = track_cells([good()])
        for place in (0, 1, 60, len(plain) - 1, len(plain), 10 ** 29):
            for number in range(4):
                self.assertEqual(protected_cells([good()], [(place, 0)], number), plain)

    def test_runs_beyond_the_end(self):
        plain = track_cells([empty()])
        for number in range(8):
            for place in (len(plain), len(plain) + 1, 10 ** 29):
                self.assertEqual(protected_cells([empty()], [(place, 10)], number), plain)
                self.assertEqual(protected_cells([empty()], [(place, 10 ** 29)], number), plain)
            self.made([empty()], [(5, 10 ** 29)], number)
            self.made([empty()], [(len(plain) - 20, 500)], number)
            self.made([empty()], [(len(plain) - 1, 500)], number)

    def test_the_first_and_the_last_cell(self):
        for sectors, length in (([], 0), ([good()], 0), ([empty()], 90)):
            plain = track_cells(sectors, length=length)
            for number in range(40):
                for run in ((0, 1), (len(plain) - 1, 1), (0, len(plain)), (0, 3), (len(plain) - 3, 3)):
                    cells = self.made(sectors, [run], number, length)
                    self.assertEqual([cells[0], cells[-1]], [plain[0], plain[-1]])

    def test_numbers_of_reads_that_give_other_cells(self):
        sectors = [empty(), empty(OTHER)]
        plain = track_cells(sectors)
        made = [protected_cells(sectors, [(0, len(plain))], number) for number in range(8)]
        self.assertGreater(len({tuple(cells) for cells in made}), 2)
        self.assertEqual(protected_cells(sectors, [(0, len(plain))], 256), made[0])
        self.assertEqual(protected_cells(sectors, [(0, len(plain))], 259), made[3])

    def test_the_wanted_number_of_bytes(self):
        self.assertEqual(len(protected_cells([], [(0, 9)], 1, length=50)), 800)
        self.assertEqual(len(protected_cells([], [(0, 9)], 1)), 160)

    def test_invalid_sectors(self):
        for sectors, index in (
            ([Sector((0, 0, 1, 6), None)], 0), ([good(), Sector(ADDRESS, [1] * 15)], 1),
            ([good(), good(), Sector((256, 0, 1, 0), None), Sector(ADDRESS, [])], 2),
        ):
            with self.assertRaises(DiscError) as caught:
                protected_cells(sectors, [(0, 5)], 1)
            self.assertIs(type(caught.exception), InvalidSector)
            self.assertEqual(caught.exception.index, index)

    def test_nothing_is_changed(self):
        sectors, runs = [good()], [(3, 50)]
        protected_cells(sectors, runs, 3).append(5)
        self.assertEqual([sectors, runs], [[good()], [(3, 50)]])


class KeptFeaturesTest(unittest.TestCase):

    def test_features_before_and_after_an_image_is_written_and_read(self):
        sectors = [good(), wrong(OTHER), empty((0, 1, 3, 1)), good(), good((5, 0, 4, 0))]
        reads = [flux_of(protected_cells(sectors, [(30, 400), (900, 90)], number), CELL) for number in range(4)]
        reads.append(flux_of(track_cells(sectors, length=400), CELL))
        told = features((0, 0), reads, CELL, 2000)
        self.assertEqual({feature[0] for feature in told}, {
            "weak", "doubled", "wrong data", "no data", "long", "mixed sizes", "odd address",
        })
        image, damaged = read_image(image_bytes(Image(CELL, "", {(0, 0): reads, (1, 0): reads[:1]})))
        self.assertEqual(damaged, [])
        self.assertEqual(features((0, 0), image.reads((0, 0)), image.cell, 2000), told)
        self.assertEqual(features((1, 0), image.reads((1, 0)), CELL, 2000), features((1, 0), reads[:1], CELL, 2000))


if __name__ == "__main__":
    unittest.main()
