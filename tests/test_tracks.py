"""Points 13 to 17: discwright/tracks.py."""

import random
import unittest

from discwright.encodings import mfm_cells
from discwright.errors import DiscError, InvalidSector
from discwright.tracks import Sector, found_sectors, track_bytes, track_cells
from tests.models import MODEL_MARK, MODEL_MARKS, model_bits, model_crc, model_field, model_mfm

MARK = "mark"


def model_track_items(sectors, length=0):
    """Points 13 and 14: the bytes of a track, with a word for each mark."""
    items = [78] * 10
    for sector in sectors:
        fields = [([254] + list(sector.address), sector.address_wrong)]
        if sector.data is not None:
            fields.append(([251] + list(sector.data), sector.data_wrong))
        for values, wrong in fields:
            check = model_crc([161] * 3 + values) ^ (1 if wrong else 0)
            items += [0] * 6 + [MARK] * 3 + values + [check // 256, check % 256]
            items += [78] * 8
        if sector.data is None:
            items += [78] * 8
    return items + [78] * (length - len(items))


def model_track(sectors, length=0):
    cells = []
    before = 0
    for item in model_track_items(sectors, length):
        if item == MARK:
            cells += MODEL_MARK
            before = 1
        else:
            cells += model_mfm([item], before)
            before = item % 2
    return cells


def data_for(address, seed=1):
    source = random.Random(seed)
    return [source.randrange(256) for _ in range(16 * 2 ** address[3])]


def sector_for(address, seed=1, **faults):
    return Sector(address, data_for(address, seed), **faults)


def expected(sectors):
    """Point 17: what must be found of sectors that are written."""
    found = []
    place = 16 * 10
    for sector in sectors:
        place += 16 * 6
        data_good = sector.data is not None and not sector.data_wrong
        found.append((place, sector.address, not sector.address_wrong, sector.data, data_good))
        place += 16 * (3 + 7 + 8)
        if sector.data is not None:
            place += 16 * (6 + 3 + 1 + len(sector.data) + 2)
        place += 16 * 8
    return found


def flipped(cells, *places):
    changed = list(cells)
    for place in places:
        changed[place] = 1 - changed[place]
    return changed


# An address field is read to its end 160 cells behind its place.
ADDRESS = (3, 1, 7, 0)
DATA = tuple(range(100, 116))
ADDRESS_FIELD = model_field([254] + list(ADDRESS))
DATA_FIELD = model_field([251] + list(DATA))
GOOD = (96, ADDRESS, True, DATA, True)
WITHOUT = (96, ADDRESS, True, None, False)


class SectorTest(unittest.TestCase):

    def test_fields(self):
        sector = Sector((1, 2, 3, 0), [5] * 16)
        self.assertEqual([sector.address, sector.data], [(1, 2, 3, 0), (5,) * 16])
        self.assertIs(type(sector.data), tuple)
        self.assertIs(sector.address_wrong, False)
        self.assertIs(sector.data_wrong, False)
        self.assertIs(Sector((1, 2, 3, 0), None).data, None)

    def test_faults(self):
        sector = Sector((1, 2, 3, 0), None, address_wrong=True)
        self.assertEqual([sector.address_wrong, sector.data_wrong], [True, False])
        sector = Sector((1, 2, 3, 0), None, data_wrong=True)
        self.assertEqual([sector.address_wrong, sector.data_wrong], [False, True])

    def test_nothing_is_checked(self):
        sector = Sector((999, -1, 300, 9), [1000, -4])
        self.assertEqual([sector.address, sector.data], [(999, -1, 300, 9), (1000, -4)])
        self.assertEqual(Sector((0, 0, 0, 0), []).data, ())

    def test_equal(self):
        for faults in ({}, {"address_wrong": True}, {"data_wrong": True}):
            one = Sector((1, 2, 3, 0), [5] * 16, **faults)
            self.assertTrue(one == Sector((1, 2, 3, 0), [5] * 16, **faults))
            self.assertFalse(one != Sector((1, 2, 3, 0), [5] * 16, **faults))
        self.assertTrue(Sector((1, 2, 3, 0), None) == Sector((1, 2, 3, 0), None))

    def test_different(self):
        one = Sector((1, 2, 3, 0), [5] * 16)
        others = [
            Sector((1, 2, 4, 0), [5] * 16), Sector((1, 2, 3, 0), [5] * 15 + [6]), Sector((1, 2, 3, 0), None),
            Sector((1, 2, 3, 0), [5] * 16, address_wrong=True), Sector((1, 2, 3, 0), [5] * 16, data_wrong=True),
            Sector((1, 2, 3, 0), []),
        ]
        for other in others:
            self.assertFalse(one == other)
            self.assertTrue(one != other)
        self.assertFalse(Sector((1, 2, 3, 0), None) == Sector((1, 2, 3, 0), []))

    def test_the_list_may_be_changed_afterwards(self):
        data = [5] * 16
        sector = Sector((1, 2, 3, 0), data)
        data[0] = 9
        data.append(1)
        self.assertEqual(sector.data, (5,) * 16)


class WritingTest(unittest.TestCase):

    def written(self, sectors, length=0):
        cells = track_cells(sectors, length=length)
        self.assertEqual(cells, model_track(sectors, length))
        count = track_bytes(sectors)
        self.assertEqual(count, len(model_track_items(sectors)))
        self.assertEqual(len(cells), 16 * max(count, length))

    def test_no_sectors(self):
        self.assertEqual(track_cells([]), mfm_cells([78] * 10))
        self.assertEqual(track_bytes([]), 10)
        self.written([])

    def test_each_size(self):
        for size in range(6):
            self.written([sector_for((1, 0, 2, size))])
            self.assertEqual(track_bytes([sector_for((1, 0, 2, size))]), 54 + 16 * 2 ** size)

    def test_several_sectors(self):
        self.written([sector_for((0, 1, number, number % 6), number) for number in range(9)])

    def test_greatest_numbers(self):
        self.written([Sector((255, 255, 255, 5), [255] * 512), Sector((0, 0, 0, 0), [0] * 16)])

    def test_without_data(self):
        self.written([Sector((0, 1, 3, 4), None)])
        self.written([Sector((0, 1, 3, 4), None), sector_for((0, 1, 4, 0)), Sector((0, 1, 5, 0), None)])
        self.assertEqual(track_bytes([Sector((0, 1, 3, 4), None)]), 42)

    def test_wrong_crcs(self):
        for wrong in ((True, False), (False, True), (True, True)):
            for seed in range(4):
                self.written([sector_for((seed, 1, 3, 1), seed, address_wrong=wrong[0], data_wrong=wrong[1])])

    def test_wrong_data_without_data_have_no_meaning(self):
        plain = [Sector((0, 1, 3, 0), None)]
        wrong = [Sector((0, 1, 3, 0), None, data_wrong=True)]
        self.assertEqual(track_cells(wrong), track_cells(plain))
        self.assertEqual(track_bytes(wrong), track_bytes(plain))

    def test_wanted_lengths(self):
        sectors = [sector_for((0, 1, 3, 0)), Sector((0, 1, 4, 0), None)]
        count = track_bytes(sectors)
        self.assertEqual(count, 102)
        for length in (0, 1, count - 1, count):
            self.assertEqual(track_cells(sectors, length=length), track_cells(sectors), length)
        for length in (count + 1, count + 2, 1000):
            self.written(sectors, length)
            self.assertEqual(track_cells(sectors, length=length)[:16 * count], track_cells(sectors))
        for length in (9, 10, 11, 50):
            self.written([], length)

    def test_nothing_is_changed(self):
        sectors = [sector_for((0, 1, 3, 0), address_wrong=True)]
        track_cells(sectors, length=500).append(7)
        track_bytes(sectors)
        self.assertEqual(len(sectors), 1)
        self.assertTrue(sectors[0] == sector_for((0, 1, 3, 0), address_wrong=True))
        self.written(sectors, 500)


class InvalidTest(unittest.TestCase):

    def refused(self, sectors, index):
        for call in (track_cells, track_bytes):
            with self.assertRaises(DiscError) as caught:
                call(sectors)
            self.assertIs(type(caught.exception), InvalidSector)
            self.assertEqual(caught.exception.index, index)

    def test_addresses_out_of_range(self):
        for address in ((256, 0, 1, 0), (-1, 0, 1, 0), (0, 256, 1, 0), (0, -1, 1, 0), (0, 0, 256, 0), (0, 0, -1, 0)):
            self.refused([Sector(address, [0] * 16)], 0)
            self.refused([Sector(address, None)], 0)

    def test_sizes_out_of_range(self):
        for size, count in ((6, 1024), (-1, 8), (-1, 16), (255, 16), (256, 16)):
            self.refused([Sector((0, 0, 1, size), [0] * count)], 0)
            self.refused([Sector((0, 0, 1, size), None)], 0)

    def test_another_number_of_data(self):
        for size in range(6):
            for count in (0, 16 * 2 ** size - 1, 16 * 2 ** size + 1, 32 * 2 ** size):
                self.refused([Sector((0, 0, 1, size), [0] * count)], 0)

    def test_data_that_are_no_bytes(self):
        for value in (256, -1, 1000):
            self.refused([Sector((0, 0, 1, 0), [value] + [0] * 15)], 0)
            self.refused([Sector((0, 0, 1, 0), [0] * 15 + [value])], 0)

    def test_the_first_wrong_one(self):
        right = sector_for((0, 0, 1, 0))
        short = Sector((0, 0, 1, 0), [1])
        odd = Sector((0, 0, 1, 6), None)
        self.refused([right, right, short, odd], 2)
        self.refused([right, odd, right, short], 1)
        self.refused([odd, short], 0)
        self.refused([right, right, right, odd], 3)


class FoundTest(unittest.TestCase):

    def test_the_kinds_of_what_is_found(self):
        found = found_sectors(ADDRESS_FIELD + DATA_FIELD)
        self.assertEqual(found, [GOOD])
        self.assertIs(type(found), list)
        self.assertEqual([type(part) for part in found[0]], [int, tuple, bool, tuple, bool])
        found = found_sectors(ADDRESS_FIELD)
        self.assertEqual(found, [WITHOUT])
        self.assertIs(found[0][3], None)
        self.assertIs(found[0][4], False)

    def test_nothing_is_found_in_other_cells(self):
        for cells in ([], [0] * 1000, [1] * 1000, [0, 1] * 500, mfm_cells([78] * 100), mfm_cells([161] * 20)):
            self.assertEqual(found_sectors(cells), [])

    def test_what_is_written_is_found(self):
        source = random.Random(12)
        for at in range(60):
            sectors = []
            for _ in range(source.randrange(6)):
                address = tuple([source.randrange(256) for _ in range(3)] + [source.randrange(6)])
                data = [source.randrange(256) for _ in range(16 * 2 ** address[3])]
                if source.randrange(4) == 0:
                    data = None
                wrong = source.randrange(3) == 0, source.randrange(3) == 0
                sectors.append(Sector(address, data, address_wrong=wrong[0], data_wrong=wrong[1]))
            cells = track_cells(sectors, length=source.choice((0, 3000)))
            self.assertEqual(found_sectors(cells), expected(sectors), at)

    def test_data_that_look_like_marks_and_addresses(self):
        data = [0] * 4 + [161, 161, 161, 254, 0, 0, 1, 0, 161, 161, 161, 251]
        sectors = [Sector((0, 0, 1, 0), data), Sector((161, 161, 161, 1), data + data)]
        self.assertEqual(found_sectors(track_cells(sectors)), expected(sectors))
        for value in (0, 10, 20, 34, 68, 137, 161, 194, 255):
            sectors = [Sector((value, value, value, 5), [value] * 512)]
            self.assertEqual(found_sectors(track_cells(sectors)), expected(sectors))

    def test_the_same_address_twice(self):
        sectors = [sector_for((0, 0, 1, 0), 1), sector_for((0, 0, 1, 0), 2)]
        self.assertEqual(found_sectors(track_cells(sectors)), expected(sectors))

    def test_two_tracks_one_behind_the_other(self):
        first = [sector_for((0, 0, 1, 0), 1), Sector((0, 0, 2, 0), None)]
        second = [sector_for((0, 0, 3, 1), 2)]
        cells = track_cells(first)
        found = [(place + len(cells),) + tuple(rest) for place, *rest in expected(second)]
        self.assertEqual(found_sectors(cells + track_cells(second)), expected(first) + found)

    def test_cells_at_the_beginning(self):
        for count in range(20):
            for bit in (0, 1):
                found = found_sectors([bit] * count + ADDRESS_FIELD + DATA_FIELD)
                self.assertEqual(found, [(96 + count,) + GOOD[1:]])

    def test_cells_cut_off_at_the_beginning(self):
        cells = ADDRESS_FIELD + DATA_FIELD
        for count in (1, 15, 95, 96):
            self.assertEqual(found_sectors(cells[count:]), [(96 - count,) + GOOD[1:]])
        for count in (97, 110, 143, 144, len(ADDRESS_FIELD) + 1):
            self.assertEqual(found_sectors(cells[count:]), [])

    def test_cells_cut_off_at_the_end(self):
        cells = ADDRESS_FIELD + DATA_FIELD
        for count in (1, 2, 15, 16, 17, 300, len(DATA_FIELD)):
            self.assertEqual(found_sectors(cells[:-count]), [WITHOUT], count)
        for count in (1, 16, 32, 100, 112, 113, 200):
            self.assertEqual(found_sectors(ADDRESS_FIELD[:-count]), [])

    def test_the_list_is_not_changed(self):
        cells = ADDRESS_FIELD + DATA_FIELD
        found_sectors(cells).append(5)
        self.assertEqual(cells, ADDRESS_FIELD + DATA_FIELD)
        self.assertEqual(found_sectors(cells), [GOOD])


class MarksTest(unittest.TestCase):

    def with_marks(self, count):
        return mfm_cells([0] * 6) + MODEL_MARK * count + ADDRESS_FIELD[144:] + DATA_FIELD

    def test_marks_alone(self):
        self.assertEqual(found_sectors(MODEL_MARKS), [])
        self.assertEqual(found_sectors(mfm_cells([0] * 6) + MODEL_MARKS + mfm_cells([78] * 20)), [])
        self.assertEqual(found_sectors(MODEL_MARK * 9), [])

    def test_too_few_marks(self):
        self.assertEqual(found_sectors(self.with_marks(1)), [])
        self.assertEqual(found_sectors(self.with_marks(2)), [])
        self.assertEqual(found_sectors(self.with_marks(3)), [GOOD])

    def test_more_marks(self):
        for count in (4, 5, 7, 8, 10):
            self.assertEqual(found_sectors(self.with_marks(count)), [], count)

    def test_marks_twice_and_three_times(self):
        self.assertEqual(found_sectors(self.with_marks(6)), [(144,) + GOOD[1:]])
        self.assertEqual(found_sectors(self.with_marks(9)), [(192,) + GOOD[1:]])

    def test_other_first_bytes(self):
        for value in (0, 78, 161, 248, 250, 252, 253, 255):
            self.assertEqual(found_sectors(model_field([value] + list(ADDRESS)) + DATA_FIELD), [], value)
            cells = ADDRESS_FIELD + model_field([value] + list(DATA))
            self.assertEqual(found_sectors(cells), [WITHOUT], value)

    def test_data_alone(self):
        self.assertEqual(found_sectors(DATA_FIELD), [])
        self.assertEqual(found_sectors(DATA_FIELD + ADDRESS_FIELD), [(len(DATA_FIELD) + 96,) + WITHOUT[1:]])

    def test_marks_in_the_data(self):
        # The bytes are read on behind the marks, and have faults there.
        values = list(DATA[:5]) + [161, 161, 161] + list(DATA[8:])
        cells = ADDRESS_FIELD + model_field([251] + values)
        start = len(ADDRESS_FIELD) + 144 + 16 * 6
        self.assertEqual(found_sectors(cells), [(96, ADDRESS, True, tuple(values), True)])
        cells[start:start + 48] = MODEL_MARKS
        self.assertEqual(found_sectors(cells), [(96, ADDRESS, True, tuple(values), False)])


class PlaceOfDataTest(unittest.TestCase):

    # The marks of the data stand 96 cells behind the beginning of their field.

    def test_at_most_60_bytes(self):
        gap = mfm_cells([78] * 54)
        self.assertEqual(found_sectors(ADDRESS_FIELD + gap + DATA_FIELD), [GOOD])
        self.assertEqual(found_sectors(ADDRESS_FIELD + gap[:-1] + DATA_FIELD), [GOOD])
        self.assertEqual(found_sectors(ADDRESS_FIELD + gap + [0] + DATA_FIELD), [WITHOUT])
        self.assertEqual(found_sectors(ADDRESS_FIELD + gap + mfm_cells([78]) + DATA_FIELD), [WITHOUT])

    def test_any_distance_up_to_960_cells(self):
        for count in (0, 1, 7, 16, 100, 959, 960):
            self.assertEqual(found_sectors(ADDRESS_FIELD + [0] * count + DATA_FIELD[96:]), [GOOD], count)
        for count in (961, 962, 976, 5000):
            self.assertEqual(found_sectors(ADDRESS_FIELD + [0] * count + DATA_FIELD[96:]), [WITHOUT], count)

    def test_marks_before_the_end_of_the_address(self):
        # The last byte of the address's CRC is the first mark of the data.
        found = found_sectors(ADDRESS_FIELD[:-16] + DATA_FIELD[96:])
        self.assertEqual(found, [(96, ADDRESS, False, None, False)])

    def test_other_marks_between_them(self):
        for value in (0, 78, 248):
            between = MODEL_MARKS + model_mfm([value], 1)
            self.assertEqual(found_sectors(ADDRESS_FIELD + between + DATA_FIELD), [WITHOUT])
        self.assertEqual(found_sectors(ADDRESS_FIELD + MODEL_MARK * 2 + DATA_FIELD), [GOOD])

    def test_another_address_between_them(self):
        second = model_field([254, 3, 1, 8, 0])
        found = found_sectors(ADDRESS_FIELD + second + DATA_FIELD)
        place = len(ADDRESS_FIELD) + 96
        self.assertEqual(found, [WITHOUT, (place, (3, 1, 8, 0), True, DATA, True)])

    def test_other_data_between_them(self):
        more = model_field([251] + [9] * 16)
        self.assertEqual(found_sectors(ADDRESS_FIELD + DATA_FIELD + more), [GOOD])

    def test_sizes_above_5(self):
        for size in (6, 7, 128, 255):
            cells = model_field([254, 1, 2, 3, size]) + model_field([251] + [7] * 1024)
            self.assertEqual(found_sectors(cells), [(96, (1, 2, 3, size), True, None, False)], size)

    def test_the_size_tells_the_number_of_data(self):
        for size in range(6):
            data = data_for((1, 2, 3, size))
            cells = model_field([254, 1, 2, 3, size]) + model_field([251] + data)
            self.assertEqual(found_sectors(cells), [(96, (1, 2, 3, size), True, tuple(data), True)], size)


class GoodTest(unittest.TestCase):

    def test_data_of_an_address_that_is_not_good(self):
        cells = model_field([254] + list(ADDRESS), True) + DATA_FIELD
        self.assertEqual(found_sectors(cells), [(96, ADDRESS, False, DATA, True)])

    def test_a_wrong_crc_of_the_data(self):
        cells = ADDRESS_FIELD + model_field([251] + list(DATA), True)
        self.assertEqual(found_sectors(cells), [(96, ADDRESS, True, DATA, False)])

    def test_changed_bits_of_the_address(self):
        for at in range(1, 5):
            cells = flipped(ADDRESS_FIELD + DATA_FIELD, 144 + 16 * at + 1)
            address = list(ADDRESS)
            address[at - 1] = address[at - 1] ^ 128
            data = DATA if address[3] < 6 else None
            self.assertEqual(found_sectors(cells), [(96, tuple(address), False, data, data is not None)])

    def test_changed_clocks_of_the_address(self):
        for place in range(144, len(ADDRESS_FIELD), 26):
            cells = flipped(ADDRESS_FIELD + DATA_FIELD, place)
            self.assertEqual(found_sectors(cells), [GOOD], place)

    def test_changed_clocks_of_the_data(self):
        start = len(ADDRESS_FIELD) + 144
        for place in range(0, 16 * 17, 2):
            cells = flipped(ADDRESS_FIELD + DATA_FIELD, start + place)
            self.assertEqual(found_sectors(cells), [(96, ADDRESS, True, DATA, False)], place)

    def test_changed_bits_of_the_data(self):
        start = len(ADDRESS_FIELD) + 144 + 16
        bits = model_bits(DATA)
        for at in range(len(bits)):
            found = found_sectors(flipped(ADDRESS_FIELD + DATA_FIELD, start + 2 * at + 1))
            self.assertEqual([row[:3] for row in found], [(96, ADDRESS, True)])
            self.assertIs(found[0][4], False)
            self.assertEqual(model_bits(found[0][3]), flipped(bits, at))

    def test_faults_elsewhere_do_not_count(self):
        cells = ADDRESS_FIELD + mfm_cells([78] * 8) + DATA_FIELD + model_mfm([78] * 8, DATA_FIELD[-1])
        middle = len(ADDRESS_FIELD)
        for place in (0, middle, middle + 3, middle + 128, len(cells) - 128, len(cells) - 127, len(cells) - 1):
            self.assertEqual(found_sectors(flipped(cells, place)), [GOOD], place)

    def test_a_changed_mark(self):
        for place in range(96, 144):
            self.assertEqual(found_sectors(flipped(ADDRESS_FIELD + DATA_FIELD, place)), [])
        start = len(ADDRESS_FIELD) + 96
        for place in range(start, start + 48):
            self.assertEqual(found_sectors(flipped(ADDRESS_FIELD + DATA_FIELD, place)), [WITHOUT])


if __name__ == "__main__":
    unittest.main()
