"""Points 22 to 24: discwright/merging.py."""

import itertools
import random
import unittest

from discwright.errors import DiscError, InvalidCell
from discwright.flux import Read, fixed_cells, flux_of
from discwright.merging import left_out, outcomes, views_of
from discwright.tracks import Sector, found_sectors, track_cells

CELL = 50
ADDRESS = (0, 0, 1, 0)


def read_of(*sectors):
    return flux_of(track_cells(list(sectors)), CELL)


def right(data, address=ADDRESS):
    return Sector(address, data)


def wrong(data, address=ADDRESS):
    """A sector whose data are not good."""
    return Sector(address, data, data_wrong=True)


def missing(address=ADDRESS):
    return Sector(address, None)


def lost_address(data, address=ADDRESS):
    return Sector(address, data, address_wrong=True)


def with_byte(value, place=0):
    data = [7] * 16
    data[place] = value
    return data


class MergingTest(unittest.TestCase):

    def outcome(self, reads):
        """The outcome of the only key."""
        told = outcomes(reads, CELL)
        self.assertEqual([key for key, _ in told], [(ADDRESS, 0)])
        return told[0][1]


class ViewsTest(MergingTest):

    def test_one_read(self):
        read = read_of(right([7] * 16))
        view = (256, ADDRESS, True, (7,) * 16, True)
        self.assertEqual(views_of([read], CELL), {(ADDRESS, 0): [(0, view)]})

    def test_the_kinds_of_values(self):
        views = views_of([read_of(right([7] * 16))], CELL)
        self.assertIs(type(views), dict)
        self.assertIs(type(views[ADDRESS, 0]), list)
        self.assertIs(type(views[ADDRESS, 0][0]), tuple)

    def test_views_stand_in_the_order_of_the_reads(self):
        reads = [read_of(wrong([9] * 16)), read_of(), read_of(right([7] * 16)), read_of(missing())]
        self.assertEqual(views_of(reads, CELL)[ADDRESS, 0], [
            (0, (256, ADDRESS, True, (9,) * 16, False)), (2, (256, ADDRESS, True, (7,) * 16, True)),
            (3, (256, ADDRESS, True, None, False)),
        ])

    def test_no_reads_and_no_sectors(self):
        self.assertEqual(views_of([], CELL), {})
        self.assertEqual(views_of([Read([], 0), read_of()], CELL), {})
        self.assertEqual([outcomes([], CELL), outcomes([Read([], 0), read_of()], CELL)], [[], []])
        self.assertEqual([left_out([], CELL), left_out([Read([], 0), read_of()], CELL)], [0, 0])

    def test_an_address_that_stands_twice(self):
        read = read_of(right([1] * 16), right([2] * 16, (0, 0, 2, 0)), right([3] * 16))
        views = views_of([read, read_of(right([4] * 16))], CELL)
        self.assertEqual(sorted(views), [(ADDRESS, 0), (ADDRESS, 1), ((0, 0, 2, 0), 0)])
        self.assertEqual([(index, view[3][0]) for index, view in views[ADDRESS, 0]], [(0, 1), (1, 4)])
        self.assertEqual([(index, view[3][0]) for index, view in views[ADDRESS, 1]], [(0, 3)])

    def test_addresses_that_are_not_good_are_left_out(self):
        reads = [read_of(lost_address([1] * 16), right([2] * 16)), read_of(lost_address([3] * 16))]
        views = views_of(reads, CELL)
        self.assertEqual(list(views), [(ADDRESS, 0)])
        self.assertEqual([(index, view[3][0]) for index, view in views[ADDRESS, 0]], [(0, 2)])

    def test_only_good_addresses_count_for_the_key(self):
        read = read_of(right([1] * 16), lost_address([2] * 16), right([3] * 16), missing())
        views = views_of([read], CELL)
        self.assertEqual(sorted(views), [(ADDRESS, 0), (ADDRESS, 1), (ADDRESS, 2)])
        self.assertEqual([views[ADDRESS, count][0][1][3] for count in range(3)], [(1,) * 16, (3,) * 16, None])

    def test_views_are_those_of_the_fixed_clock(self):
        source = random.Random(15)
        sectors = [right([source.randrange(256) for _ in range(16)], (1, 1, number, 0)) for number in range(4)]
        clean = read_of(*sectors)
        noisy = Read([ticks + source.randrange(-24, 25) for ticks in clean.intervals], clean.rest + 20)
        self.assertEqual(views_of([noisy], CELL), views_of([clean], CELL))
        views = views_of([noisy, clean], CELL)
        for index, read in enumerate((noisy, clean)):
            for found in found_sectors(fixed_cells(read, CELL)):
                self.assertIn((index, found), views[found[1], 0])

    def test_left_out(self):
        reads = [
            read_of(lost_address([1] * 16), right([2] * 16)), read_of(right([2] * 16)),
            read_of(lost_address([3] * 16), lost_address([4] * 16, (0, 0, 2, 0)), missing((0, 0, 5, 0))),
        ]
        self.assertEqual(left_out(reads, CELL), 3)
        self.assertEqual([left_out([read], CELL) for read in reads], [1, 0, 2])

    def test_lengths_of_a_cell(self):
        read = read_of(right([7] * 16))
        for cell in (9, 1001, 0, -50):
            for call in (views_of, outcomes, left_out):
                with self.assertRaises(DiscError) as caught:
                    call([read], cell)
                self.assertIs(type(caught.exception), InvalidCell)
        for cell in (10, 1000):
            read = flux_of(track_cells([right([7] * 16)]), cell)
            self.assertEqual(outcomes([read], cell), [((ADDRESS, 0), ("good", (7,) * 16))])

    def test_nothing_is_changed(self):
        reads = [read_of(right([7] * 16)), read_of(wrong([9] * 16))]
        views_of(reads, CELL)[ADDRESS, 0].append(1)
        outcomes(reads, CELL).append(1)
        left_out(reads, CELL)
        self.assertEqual(reads, [read_of(right([7] * 16)), read_of(wrong([9] * 16))])
        self.assertEqual(len(views_of(reads, CELL)[ADDRESS, 0]), 2)


class GoodTest(MergingTest):

    def test_one_good_view(self):
        self.assertEqual(self.outcome([read_of(right([7] * 16))]), ("good", (7,) * 16))

    def test_good_views_that_agree(self):
        read = read_of(right([7] * 16))
        self.assertEqual(self.outcome([read, read, read]), ("good", (7,) * 16))

    def test_good_beside_other_views(self):
        reads = [read_of(wrong([9] * 16)), read_of(wrong([9] * 16)), read_of(missing()), read_of(right([7] * 16)),
                 read_of(lost_address([8] * 16)), read_of(wrong([9] * 16))]
        self.assertEqual(self.outcome(reads), ("good", (7,) * 16))

    def test_each_size(self):
        for size in range(6):
            data = [at % 251 for at in range(16 * 2 ** size)]
            told = outcomes([read_of(right(data, (0, 0, 1, size)))], CELL)
            self.assertEqual(told, [(((0, 0, 1, size), 0), ("good", tuple(data)))])

    def test_good_views_that_differ(self):
        one, other = read_of(right([7] * 16)), read_of(right([8] * 16))
        self.assertEqual(self.outcome([one, other]), ("unsteady",))
        self.assertEqual(self.outcome([one, one, one, other]), ("unsteady",))
        self.assertEqual(self.outcome([read_of(wrong([7] * 16)), other, one]), ("unsteady",))
        last = read_of(right(with_byte(6, 15)))
        self.assertEqual(self.outcome([one, last]), ("unsteady",))

    def test_good_views_of_other_keys_do_not_count(self):
        read = read_of(wrong([1] * 16), right([2] * 16), right([3] * 16, (0, 0, 2, 0)))
        self.assertEqual(outcomes([read], CELL), [
            ((ADDRESS, 0), ("lost",)), ((ADDRESS, 1), ("good", (2,) * 16)), (((0, 0, 2, 0), 0), ("good", (3,) * 16)),
        ])


class VotedTest(MergingTest):

    def voted(self, *rows):
        return self.outcome([read_of(wrong(data)) for data in rows])

    def test_two_views_that_agree(self):
        self.assertEqual(self.voted([7] * 16, [7] * 16), ("voted", (7,) * 16))
        data = list(range(0, 256, 16))
        self.assertEqual(self.voted(data, data), ("voted", tuple(data)))

    def test_two_views_that_differ(self):
        for place in (0, 9, 15):
            for bit in (1, 2, 128):
                self.assertEqual(self.voted([7] * 16, with_byte(7 ^ bit, place)), ("lost",))

    def test_three_views(self):
        one, other, third = [12] * 16, [10] * 16, [6] * 16
        self.assertEqual(self.voted(one, other, third), ("voted", (14,) * 16))
        self.assertEqual(self.voted([0] * 16, [255] * 16, [255] * 16), ("voted", (255,) * 16))
        self.assertEqual(self.voted([0] * 16, [255] * 16, [0] * 16), ("voted", (0,) * 16))
        self.assertEqual(self.voted(with_byte(1, 3), with_byte(128, 8), with_byte(64, 15)), ("voted", (7,) * 16))

    def test_four_views(self):
        self.assertEqual(self.voted([7] * 16, [7] * 16, [7] * 16, [9] * 16), ("voted", (7,) * 16))
        self.assertEqual(self.voted([7] * 16, [7] * 16, [9] * 16, [9] * 16), ("lost",))
        self.assertEqual(self.voted([7] * 16, with_byte(3), [7] * 16, with_byte(3)), ("lost",))
        self.assertEqual(self.voted([7] * 16, with_byte(3), with_byte(5), with_byte(6)), ("voted", (7,) * 16))

    def test_a_tie_at_one_bit_alone(self):
        data = [7] * 16
        self.assertEqual(self.voted(data, data, with_byte(6, 15), with_byte(6, 15)), ("lost",))
        self.assertEqual(self.voted(data, data, with_byte(6, 15), with_byte(7, 15)), ("voted", (7,) * 16))

    def test_each_bit_has_its_own_majority(self):
        source = random.Random(16)
        for count in (3, 5):
            rows = [[source.randrange(256) for _ in range(16)] for _ in range(count)]
            wanted = [0] * 16
            for at in range(16):
                for bit in range(8):
                    if sum(row[at] >> bit & 1 for row in rows) > count // 2:
                        wanted[at] += 1 << bit
            self.assertEqual(self.voted(*rows), ("voted", tuple(wanted)))

    def test_views_without_data_have_no_vote(self):
        views = [read_of(wrong([7] * 16)), read_of(wrong([7] * 16)), read_of(missing()), read_of(missing())]
        self.assertEqual(self.outcome(views), ("voted", (7,) * 16))
        views += [read_of(missing()), read_of(wrong([9] * 16))]
        self.assertEqual(self.outcome(views), ("voted", (7,) * 16))

    def test_views_whose_address_is_not_good_have_no_vote(self):
        reads = [read_of(wrong([7] * 16)), read_of(lost_address([7] * 16))]
        self.assertEqual(self.outcome(reads), ("lost",))

    def test_data_are_a_tuple(self):
        self.assertIs(type(self.voted([7] * 16, [7] * 16)[1]), tuple)
        self.assertIs(type(self.outcome([read_of(right([7] * 16))])[1]), tuple)


class LostTest(MergingTest):

    def test_one_view_that_is_not_good(self):
        self.assertEqual(self.outcome([read_of(wrong([7] * 16))]), ("lost",))

    def test_one_view_with_data_and_others_without(self):
        self.assertEqual(self.outcome([read_of(missing()), read_of(wrong([7] * 16)), read_of(missing())]), ("lost",))

    def test_no_view_with_data(self):
        self.assertEqual(self.outcome([read_of(missing())]), ("lost",))
        self.assertEqual(self.outcome([read_of(missing()), read_of(missing())]), ("lost",))

    def test_no_key_without_a_good_address(self):
        self.assertEqual(outcomes([read_of(lost_address([7] * 16))], CELL), [])


class OutcomesTest(MergingTest):

    def test_keys_ascend(self):
        addresses = [(1, 0, 1, 0), (0, 1, 9, 0), (0, 0, 9, 1), (0, 0, 9, 0), (0, 0, 10, 0), (0, 0, 2, 0), (0, 0, 9, 0)]
        read = read_of(*[missing(address) for address in addresses])
        keys = [((0, 0, 2, 0), 0), ((0, 0, 9, 0), 0), ((0, 0, 9, 0), 1), ((0, 0, 9, 1), 0), ((0, 0, 10, 0), 0),
                ((0, 1, 9, 0), 0), ((1, 0, 1, 0), 0)]
        self.assertEqual(outcomes([read], CELL), [(key, ("lost",)) for key in keys])

    def test_keys_of_several_reads(self):
        reads = [read_of(right([1] * 16, (0, 0, 3, 0))), read_of(right([2] * 16, (0, 0, 1, 0))),
                 read_of(right([3] * 16, (0, 0, 2, 0)))]
        self.assertEqual(outcomes(reads, CELL), [
            (((0, 0, number, 0), 0), ("good", (data,) * 16)) for number, data in ((1, 2), (2, 3), (3, 1))
        ])

    def test_the_kinds_of_values(self):
        told = outcomes([read_of(right([7] * 16))], CELL)
        self.assertEqual([type(told), type(told[0]), type(told[0][0]), type(told[0][1])], [list, tuple, tuple, tuple])

    def any_reads(self, source):
        """Reads whose good views have their true data."""
        reads = []
        for _ in range(source.randrange(1, 5)):
            sectors = []
            for number in range(3):
                address = (0, 0, number, 0)
                data = [number] * 15 + [source.choice((number, number, 99))]
                kinds = [right([number] * 16, address), wrong(data, address), missing(address)]
                sectors.append(source.choice(kinds + [lost_address(data, address)]))
            reads.append(read_of(*sectors))
        return reads

    def test_the_promise(self):
        source = random.Random(17)
        for _ in range(40):
            reads = self.any_reads(source)
            views = views_of(reads, CELL)
            for (address, count), outcome in outcomes(reads, CELL):
                good = [view for _, view in views[address, count] if view[4]]
                self.assertEqual(outcome[0] == "good", bool(good))
                if good:
                    self.assertEqual(outcome, ("good", (address[2],) * 16))

    def test_reads_in_another_order(self):
        source = random.Random(18)
        for _ in range(10):
            reads = self.any_reads(source)[:3]
            told = outcomes(reads, CELL)
            for order in itertools.permutations(reads):
                self.assertEqual(outcomes(list(order), CELL), told)

    def test_one_read_twice(self):
        good, bad = read_of(right([7] * 16)), read_of(wrong([9] * 16))
        self.assertEqual(self.outcome([good, good]), self.outcome([good]))
        self.assertEqual(self.outcome([bad, good, bad]), ("good", (7,) * 16))
        self.assertEqual(self.outcome([bad, bad]), ("voted", (9,) * 16))
        self.assertEqual(self.outcome([read_of(missing()), read_of(missing())]), ("lost",))


if __name__ == "__main__":
    unittest.main()
