"""Points 65 to 67: discwright/grouptracks.py."""

import random
import re
import unittest

from discwright.errors import DiscError, InvalidSector
from discwright.grouptracks import exclusive_of, found_groups, group_cells

# Point 11: five-bit numbers that do not begin or end with two zeros and have no three zeros one behind the other.
CODES = [text for text in (format(number, "05b") for number in range(32))
         if not text.startswith("00") and not text.endswith("00") and "000" not in text][:16]
GAP = [0, 1, 0, 1, 0, 1, 0, 1] * 9
SYNC = [1] * 20


def groups(values):
    """The cells of bytes in the group code."""
    return [int(cell) for value in values for cell in CODES[value // 16] + CODES[value % 16]]


def xor(values):
    result = 0
    for value in values:
        result = result ^ value
    return result


def address_bytes(address):
    track, number, first, second = address
    return [8, track ^ number ^ first ^ second, number, track, second, first, 15, 15]


def data_bytes(data):
    return [7] + list(data) + [xor(data), 0, 0]


def model_cells(sectors):
    """Point 65."""
    cells = list(GAP)
    for address, data in sectors:
        cells += SYNC + groups(address_bytes(address)) + GAP + SYNC + groups(data_bytes(data)) + GAP
    return cells


def model_bytes(cells):
    """The bytes of cells in the group code, and for each of them whether it has a fault."""
    values, faults = [], []
    for at in range(0, len(cells) - 9, 10):
        codes = [text if text in CODES else None for text in (cells[at:at + 5], cells[at + 5:at + 10])]
        values.append(sum(weight * CODES.index(code) for weight, code in zip((16, 1), codes) if code))
        faults.append(None in codes)
    return values, faults


def model_found(cells, size):
    """Point 66, by the words."""
    text = "".join(str(cell) for cell in cells)
    runs = [(match.start(), match.end()) for match in re.finditer("1{10,}(?=0)", text)]
    found, last = [], "none"
    for at, (_, place) in enumerate(runs):
        end = runs[at + 1][0] if at + 1 < len(runs) else len(text)
        values, faults = model_bytes(text[place:end])
        count = 16 * 2 ** size
        if values[:1] == [8] and len(values) >= 8:
            address = (values[3], values[2], values[5], values[4])
            found.append((place, address, xor(address) == values[1] and not any(faults[:6]), None, False))
            last = "address"
        elif values[:1] == [7] and last == "address" and len(values) >= count + 2:
            data = tuple(values[1:count + 1])
            good = xor(data) == values[count + 1] and not any(faults[:count + 2])
            found[-1] = found[-1][:3] + (data, good)
            last = "data"
        else:
            last = "other"
    return found


def all_good(sectors, size):
    """What is found of written sectors, with their places."""
    length = 16 * 2 ** size
    found = []
    for at, (address, data) in enumerate(sectors):
        found.append((92 + at * (20 + 80 + 72 + 20 + 10 * (length + 4) + 72), tuple(address), True, tuple(data), True))
    return found


def any_sectors(source, count, size):
    return [(tuple(source.randrange(256) for _ in range(4)), [source.randrange(256) for _ in range(16 * 2 ** size)])
            for _ in range(count)]


ADDRESS = (18, 3, 65, 66)
DATA = [at * 17 % 256 for at in range(16)]
CELLS = model_cells([(ADDRESS, DATA)])
# The places of the cells of the address and of the data.
ADDRESS_AT = 92
DATA_AT = 92 + 80 + 72 + 20
GOOD = (ADDRESS_AT, ADDRESS, True, tuple(DATA), True)


class GroupTracksTest(unittest.TestCase):

    def found(self, cells, wanted, size=0):
        told = found_groups(cells, size)
        self.assertEqual(told, wanted)
        self.assertEqual(told, model_found(cells, size))

    def refused(self, sectors, size, index):
        with self.assertRaises(DiscError) as caught:
            group_cells(sectors, size)
        self.assertIs(type(caught.exception), InvalidSector)
        self.assertEqual(caught.exception.index, index)


class ExclusiveTest(GroupTracksTest):

    def test_exclusive_of(self):
        for values, wanted in (([], 0), ([0], 0), ([255], 255), ([5], 5), ([1, 2], 3), ([7, 7], 0), ([255, 1, 2], 252),
                               ([1, 2, 4, 8, 16, 32, 64, 128], 255), ([200, 200, 200], 200), ([0, 0, 9], 9)):
            self.assertEqual(exclusive_of(values), wanted)

    def test_the_list_stays(self):
        values = [1, 2, 3]
        exclusive_of(values)
        self.assertEqual(values, [1, 2, 3])


class WritingTest(GroupTracksTest):

    def test_no_sectors(self):
        for size in range(5):
            self.assertEqual(group_cells([], size), GAP)

    def test_cell_by_cell(self):
        cells = group_cells([((1, 2, 4, 128), [0] * 15 + [3])], 0)
        gap = "01010101" * 9
        sync = "11111111111111111111"
        # The bytes 8, 135, 2, 1, 128, 4, 15, 15 and 7, 0 .., 3, 3, 0, 0.
        codes = {0: "01001", 1: "01010", 2: "01011", 3: "01101", 4: "01110", 5: "01111", 6: "10010", 7: "10011",
                 8: "10101", 15: "11110"}
        address = "".join(codes[half] for half in (0, 8, 8, 7, 0, 2, 0, 1, 8, 0, 0, 4, 0, 15, 0, 15))
        data = codes[0] + codes[7] + codes[0] * 30 + codes[0] + codes[3] + codes[0] + codes[3] + codes[0] * 4
        self.assertEqual("".join(str(cell) for cell in cells), gap + sync + address + gap + sync + data + gap)

    def test_the_document(self):
        source = random.Random(65)
        for size in range(5):
            for count in (1, 2, 5):
                sectors = any_sectors(source, count, size)
                cells = group_cells(sectors, size)
                self.assertEqual(cells, model_cells(sectors))
                self.assertEqual(set(cells), {0, 1})

    def test_the_order_of_the_address(self):
        cells = group_cells([((9, 8, 7, 6), [0] * 16)], 0)
        self.assertEqual(cells[92:172], groups([8, 9 ^ 8 ^ 7 ^ 6, 8, 9, 6, 7, 15, 15]))

    def test_data_of_other_lengths(self):
        for size in range(5):
            length = 16 * 2 ** size
            right = ((1, 2, 3, 4), [5] * length)
            group_cells([right, right], size)
            for wrong in (0, 1, length - 1, length + 1, 2 * length, length // 2):
                self.refused([((1, 2, 3, 4), [5] * wrong)], size, 0)
                self.refused([right, right, ((1, 2, 3, 4), [5] * wrong), right], size, 2)

    def test_numbers_that_are_no_bytes(self):
        right = ((0, 255, 0, 255), [0, 255] * 8)
        group_cells([right], 0)
        for value in (-1, 256, 10 ** 29, -(10 ** 29)):
            for place in range(4):
                address = [1, 2, 3, 4]
                address[place] = value
                self.refused([(tuple(address), [5] * 16)], 0, 0)
                self.refused([right, (tuple(address), [5] * 16)], 0, 1)
            for place in (0, 7, 15):
                data = [5] * 16
                data[place] = value
                self.refused([((1, 2, 3, 4), data)], 0, 0)
                self.refused([right, right, ((1, 2, 3, 4), data), right], 0, 2)

    def test_the_first_wrong_pair(self):
        right = ((1, 2, 3, 4), [5] * 16)
        short, no_byte, no_address = ((1, 2, 3, 4), []), ((1, 2, 3, 4), [256] * 16), ((1, 2, 3, -4), [5] * 16)
        for first in (short, no_byte, no_address):
            for second in (short, no_byte, no_address):
                self.refused([right, first, second, right], 0, 1)

    def test_what_is_passed_stays(self):
        data = [5] * 16
        sectors = [((1, 2, 3, 4), data)]
        group_cells(sectors, 0)
        self.assertEqual([sectors, data], [[((1, 2, 3, 4), [5] * 16)], [5] * 16])


class FoundTest(GroupTracksTest):

    def test_no_cells(self):
        for cells in ([], [0] * 500, [1] * 500, GAP, GAP * 20, SYNC, SYNC + [0], [0] + SYNC):
            self.found(cells, [])

    def test_the_kinds_of_values(self):
        self.found(CELLS, [GOOD])
        found = found_groups(CELLS, 0)
        self.assertEqual([type(found), type(found[0])], [list, tuple])
        self.assertEqual([type(part) for part in found[0]], [int, tuple, bool, tuple, bool])

    def test_what_is_written(self):
        source = random.Random(67)
        for size in range(5):
            for count in (0, 1, 2, 7):
                sectors = any_sectors(source, count, size)
                self.found(group_cells(sectors, size), all_good(sectors, size), size)

    def test_bytes_of_all_values(self):
        """No data look like a sync or like the beginning of another sector."""
        for value in range(256):
            sectors = [((value, value, value, 255 - value), [value] * 16), ((0, value, 7, 8), [7, value] * 8)]
            self.found(group_cells(sectors, 0), all_good(sectors, 0))

    def test_all_pairs_of_halves(self):
        values = [16 * first + second for first in range(16) for second in range(16)]
        sectors = [((1, 2, 3, 4), values), ((1, 2, 3, 5), values[::-1])]
        self.found(group_cells(sectors, 4), all_good(sectors, 4), 4)

    def test_with_more_behind(self):
        source = random.Random(671)
        for size in (0, 3):
            sectors = any_sectors(source, 2, size)
            for more in ([0], [0] * 9, [0] * 1000, GAP, GAP[:8], GAP[:3], GAP * 10, [0, 1, 0], [0] * 5 + GAP):
                self.found(group_cells(sectors, size) + more, all_good(sectors, size), size)

    def test_doubled_addresses(self):
        sectors = [(ADDRESS, DATA), (ADDRESS, [5] * 16), (ADDRESS, DATA)]
        self.found(group_cells(sectors, 0), all_good(sectors, 0))

    def test_the_cells_stay(self):
        cells = list(CELLS)
        found_groups(cells, 0)
        self.assertEqual(cells, CELLS)


class SyncsTest(GroupTracksTest):

    def with_syncs(self, first, second):
        """The cells with syncs of other lengths, behind a 0."""
        return [0] + [1] * first + groups(address_bytes(ADDRESS)) + [0] * 9 + [1] * second + groups(data_bytes(DATA))

    def test_lengths(self):
        for first in (10, 11, 19, 20, 21, 40, 500):
            for second in (10, 11, 20, 25, 300):
                self.found(self.with_syncs(first, second), [(1 + first,) + GOOD[1:]])

    def test_too_few_cells(self):
        for count in (0, 1, 5, 8, 9):
            self.found(self.with_syncs(count, 20), [])
            self.found(self.with_syncs(count, 20)[1:], [])
            self.found(self.with_syncs(20, count), [(21, ADDRESS, True, None, False)])

    def test_a_sync_at_the_very_beginning(self):
        self.found(self.with_syncs(20, 20)[1:], [(20,) + GOOD[1:]])
        self.found(self.with_syncs(10, 10)[1:], [(10,) + GOOD[1:]])

    def test_a_sync_at_the_very_end(self):
        """Cells 1 at the end are no sync, since no 0 is behind them."""
        for count in (9, 10, 20, 100):
            self.found(CELLS + [1] * count, [GOOD])
        self.found(SYNC + groups(address_bytes(ADDRESS)) + [1] * 20, [(20, ADDRESS, True, None, False)])

    def test_the_end_of_the_cells_counts_where_no_sync_follows(self):
        """The last byte of the address ends with a 1 here, and only cells 1 follow it."""
        cells = SYNC + groups(address_bytes(ADDRESS)[:7] + [0x11])
        self.assertEqual(cells[-1], 0)
        cells = SYNC + groups(address_bytes(ADDRESS)[:7] + [0x13])
        self.assertEqual(cells[-1], 1)
        self.found(cells + [1] * 30, [(20, ADDRESS, True, None, False)])

    def test_a_sync_with_one_cell_behind_it(self):
        self.found(CELLS + SYNC + [0], [GOOD])
        self.found(CELLS[:DATA_AT] + [0], [(ADDRESS_AT, ADDRESS, True, None, False)])

    def test_a_sync_directly_behind_an_address(self):
        cells = SYNC + groups(address_bytes(ADDRESS)) + SYNC + groups(data_bytes(DATA))
        self.found(cells, [(20,) + GOOD[1:]])

    def test_a_sync_within_an_address(self):
        cells = SYNC + groups(address_bytes(ADDRESS))[:-1] + SYNC + groups(data_bytes(DATA))
        self.found(cells, [])

    def test_a_sync_within_the_data(self):
        """The exclusive or is the byte 0, whose last group is 0 1 0 0 1."""
        data = groups(data_bytes(DATA))
        end = 10 * 18
        self.assertEqual(data[end - 5:end + 2], [0, 1, 0, 0, 1, 0, 1])
        before = SYNC + groups(address_bytes(ADDRESS)) + GAP + SYNC
        self.found(before + data[:end] + [0] + SYNC + [0], [(20,) + GOOD[1:]])
        self.found(before + data[:end - 1] + [0] + SYNC + [0], [(20,) + GOOD[1:4] + (False,)])
        self.found(before + data[:end - 2] + [0] + SYNC + [0], [(20, ADDRESS, True, None, False)])

    def test_cells_1_between_bytes(self):
        """A cell 0 in a sync parts it."""
        for at in range(20):
            cells = list(CELLS)
            cells[72 + at] = 0
            cells[DATA_AT - 20 + at] = 0
            self.assertEqual(found_groups(cells, 0), model_found(cells, 0))


class PartsLeftOutTest(GroupTracksTest):

    address = SYNC + groups(address_bytes(ADDRESS)) + GAP
    other = SYNC + groups(address_bytes((1, 2, 3, 4))) + GAP
    data = SYNC + groups(data_bytes(DATA)) + GAP

    def places(self, parts, wanted):
        """What is found in parts; of each tuple that is wanted, the place is that of a part."""
        cells = GAP + [cell for part in parts for cell in part]
        starts = [72 + sum(len(part) for part in parts[:at]) + 20 for at in range(len(parts))]
        self.found(cells, [(starts[found[0]],) + found[1:] for found in wanted])

    def test_data_without_an_address(self):
        self.places([self.data], [])
        self.places([self.data, self.address, self.data], [(1,) + GOOD[1:]])
        self.places([self.address, self.data, self.data], [(0,) + GOOD[1:]])

    def test_an_address_without_data(self):
        self.places([self.address], [(0, ADDRESS, True, None, False)])
        self.places([self.address, self.address, self.data], [(0, ADDRESS, True, None, False), (1,) + GOOD[1:]])

    def test_two_addresses_one_behind_the_other(self):
        self.places([self.address, self.other, self.data],
                    [(0, ADDRESS, True, None, False), (1, (1, 2, 3, 4), True, tuple(DATA), True)])
        self.places([self.other, self.address, self.data, self.data],
                    [(0, (1, 2, 3, 4), True, None, False), (1,) + GOOD[1:]])

    def test_another_sync_between(self):
        for part in (SYNC + GAP, SYNC + [0] * 5, SYNC + groups([8] * 7), SYNC + groups([7] * 17), SYNC + groups([9] * 30),
                     SYNC + groups([0, 8] * 8)):
            self.places([self.address, part, self.data], [(0, ADDRESS, True, None, False)])

    def test_the_first_byte(self):
        """The cells of greater ones begin with a 1, which belongs to the sync."""
        for first in range(0x60):
            part = SYNC + groups([first] + address_bytes(ADDRESS)[1:]) + GAP
            self.places([part, self.data], [(0,) + GOOD[1:]] if first == 8 else [])
            part = SYNC + groups([first] + data_bytes(DATA)[1:]) + GAP
            wanted = [(0,) + GOOD[1:]] if first == 7 else [(0, ADDRESS, True, None, False)]
            if first == 8:
                read = (DATA[2], DATA[1], DATA[4], DATA[3])
                wanted.append((1, read, xor(read) == DATA[0], None, False))
            self.places([self.address, part], wanted)

    def test_too_few_bytes_of_an_address(self):
        cells = SYNC + groups(address_bytes(ADDRESS))
        self.found(cells, [(20, ADDRESS, True, None, False)])
        for count in range(1, 80):
            self.found(cells[:-count], [])

    def test_too_few_bytes_of_data(self):
        """The two bytes 0 behind the exclusive or need not be there."""
        cells = self.address + SYNC + groups(data_bytes(DATA))
        for count in (0, 1, 10, 19, 20):
            self.found(cells[:len(cells) - count], [(20,) + GOOD[1:]])
        for count in range(21, 200):
            self.found(cells[:len(cells) - count], [(20, ADDRESS, True, None, False)])

    def test_too_few_bytes_before_the_next_sync(self):
        for count in range(10, 19):
            part = SYNC + groups(data_bytes(DATA)[:count]) + [0]
            wanted = (0,) + GOOD[1:] if count == 18 else (0, ADDRESS, True, None, False)
            self.places([self.address, part, self.other], [wanted, (2, (1, 2, 3, 4), True, None, False)])
        for count in range(1, 9):
            part = SYNC + groups(address_bytes(ADDRESS)[:count]) + [0]
            wanted = [(0,) + GOOD[1:]] if count == 8 else []
            self.places([part, self.data], wanted)

    def test_another_size_than_was_written(self):
        source = random.Random(66)
        for size in range(5):
            sectors = any_sectors(source, 3, size)
            cells = group_cells(sectors, size)
            for other in range(5):
                found = found_groups(cells, other)
                self.assertEqual(found, model_found(cells, other))
                self.assertEqual([sector[1:3] for sector in found], [(address, True) for address, _ in sectors])
                if other > size:
                    self.assertEqual([sector[3:] for sector in found], [(None, False)] * 3)
                if other < size:
                    self.assertEqual([sector[3] for sector in found],
                                     [tuple(data[:16 * 2 ** other]) for _, data in sectors])


class FaultsTest(GroupTracksTest):

    def cells_with(self, place, cells):
        """The track with other cells from a place on."""
        return CELLS[:place] + cells + CELLS[place + len(cells):]

    def test_an_address_whose_exclusive_or_is_wrong(self):
        values = address_bytes(ADDRESS)
        for at, address in ((1, ADDRESS), (2, (18, 2, 65, 66)), (3, (19, 3, 65, 66)), (4, (18, 3, 65, 67)),
                            (5, (18, 3, 64, 66))):
            changed = values[:at] + [values[at] ^ 1] + values[at + 1:]
            self.found(self.cells_with(ADDRESS_AT, groups(changed)), [(92, address, False, tuple(DATA), True)])

    def test_changes_that_leave_the_exclusive_or(self):
        changed = address_bytes(ADDRESS)
        changed[2], changed[5] = changed[2] ^ 128, changed[5] ^ 128
        self.found(self.cells_with(ADDRESS_AT, groups(changed)), [(92, (18, 131, 193, 66), True, tuple(DATA), True)])

    def test_the_last_two_bytes_of_an_address(self):
        for more in ([0, 0], [255, 1], [8, 7]):
            changed = address_bytes(ADDRESS)[:6] + more
            self.found(self.cells_with(ADDRESS_AT, groups(changed)), [GOOD])

    def test_faults_of_an_address(self):
        """A group of its first six bytes that is no code makes it not good, even if it is read as what it was."""
        address = (0, 0, 0, 0)
        cells = model_cells([(address, DATA)])
        good = (92, address, True, tuple(DATA), True)
        self.found(cells, [good])
        for group in range(16):
            place = ADDRESS_AT + 5 * group
            changed = cells[:place] + [0, 0, 0, 0, 0] + cells[place + 5:]
            if group == 1:
                self.found(changed, [])
            elif group < 12:
                self.found(changed, [(92, address, False, tuple(DATA), True)])
            else:
                self.found(changed, [good])

    def test_data_whose_exclusive_or_is_wrong(self):
        values = data_bytes(DATA)
        for at in range(1, 18):
            changed = values[:at] + [values[at] ^ 16] + values[at + 1:]
            self.found(self.cells_with(DATA_AT, groups(changed)), [(92, ADDRESS, True, tuple(changed[1:17]), False)])

    def test_faults_of_data(self):
        data = [0] * 16
        cells = model_cells([(ADDRESS, data)])
        for group in range(40):
            place = DATA_AT + 5 * group
            changed = cells[:place] + [0, 0, 0, 0, 0] + cells[place + 5:]
            if group == 1:
                self.found(changed, [(92, ADDRESS, True, None, False)])
            else:
                self.found(changed, [(92, ADDRESS, True, tuple(data), group >= 36)])

    def test_data_behind_an_address_that_is_not_good(self):
        changed = address_bytes(ADDRESS)
        changed[1] ^= 5
        cells = self.cells_with(ADDRESS_AT, groups(changed))
        self.found(cells, [(92, ADDRESS, False, tuple(DATA), True)])

    def test_each_cell_turned(self):
        sectors = [(ADDRESS, DATA), ((18, 4, 65, 66), [255] * 16)]
        cells = model_cells(sectors)
        for at in range(len(cells)):
            changed = cells[:at] + [1 - cells[at]] + cells[at + 1:]
            self.assertEqual(found_groups(changed, 0), model_found(changed, 0))

    def test_each_cell_left_out_or_put_in(self):
        sectors = [(ADDRESS, DATA), ((18, 4, 65, 66), [255] * 16)]
        cells = model_cells(sectors)
        for at in range(len(cells)):
            for changed in (cells[:at] + cells[at + 1:], cells[:at] + [0] + cells[at:], cells[:at] + [1] + cells[at:]):
                self.assertEqual(found_groups(changed, 0), model_found(changed, 0))

    def test_a_cell_of_the_address_left_out(self):
        cells = CELLS[:ADDRESS_AT + 7] + CELLS[ADDRESS_AT + 8:]
        found = found_groups(cells, 0)
        self.assertTrue(len(found) == 0 or not found[0][2])

    def test_any_damage(self):
        source = random.Random(661)
        for _ in range(300):
            size = source.randrange(3)
            cells = model_cells(any_sectors(source, source.randrange(1, 4), size))
            for _ in range(source.randrange(1, 8)):
                at = source.randrange(len(cells))
                end = at + source.choice([1, 1, 2, 5, 10, 100])
                cells = source.choice([
                    cells[:at] + cells[end:],
                    cells[:at] + cells[at:end] + cells[at:end] + cells[end:],
                    cells[:at] + [source.randrange(2) for _ in cells[at:end]] + cells[end:],
                    cells[:at] + [1] * len(cells[at:end]) + cells[end:],
                ])
            for other in (size, 0):
                self.assertEqual(found_groups(cells, other), model_found(cells, other))

    def test_any_cells(self):
        source = random.Random(662)
        for _ in range(100):
            cells = [int(source.random() < 0.8) for _ in range(2000)]
            for place in range(0, 2000, 400):
                cells[place:place + 90] = [0] + [1] * 9 + groups(address_bytes(ADDRESS))
            self.assertEqual(found_groups(cells, 0), model_found(cells, 0))


if __name__ == "__main__":
    unittest.main()
