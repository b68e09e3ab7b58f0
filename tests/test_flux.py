"""Points 5 to 9: discwright/flux.py."""

import random
import unittest

from discwright.errors import DifferentLengths, DiscError, InvalidCell, InvalidRead
from discwright.flux import Read, fixed_cells, flux_of, following_cells, steady_cells, weak_places

WRONG_CELLS = (-100, 0, 9, 1001, 5000)


def run(count):
    """The cells that an interval of so many cells stands for."""
    return [0] * (count - 1) + [1]


def model_following(read, cell):
    """Point 8, step by step."""
    cells = []
    period = 16 * cell
    for ticks in read.intervals:
        count = (32 * ticks + period) // (2 * period)
        if count < 1:
            count = 1
        cells = cells + run(count)
        error = 16 * ticks - count * period
        period = period + error // (8 * count)
        if period < 12 * cell:
            period = 12 * cell
        if period > 20 * cell:
            period = 20 * cell
    return cells + [0] * ((32 * read.rest + period) // (2 * period))


class FluxTest(unittest.TestCase):

    def refused(self, error, call, *args):
        with self.assertRaises(DiscError) as caught:
            call(*args)
        self.assertIs(type(caught.exception), error, args)


class ReadTest(FluxTest):

    def test_fields(self):
        read = Read([200, 300], 100)
        self.assertEqual(read.intervals, (200, 300))
        self.assertIs(type(read.intervals), tuple)
        self.assertEqual(read.rest, 100)

    def test_a_read_without_changes(self):
        self.assertEqual([Read([], 0).intervals, Read([], 0).rest], [(), 0])
        self.assertEqual(Read([], 77).duration(), 77)

    def test_numbers_of_intervals(self):
        self.assertEqual(Read([5], 0).intervals, (5,))
        self.assertEqual(len(Read([3] * 60000, 0).intervals), 60000)
        self.refused(InvalidRead, Read, [3] * 60001, 0)

    def test_sizes_of_intervals(self):
        self.assertEqual(Read([1, 1000000], 0).intervals, (1, 1000000))
        for ticks in (0, -1, 1000001):
            self.refused(InvalidRead, Read, [ticks], 5)
            self.refused(InvalidRead, Read, [7, 7, ticks], 5)
            self.refused(InvalidRead, Read, [ticks, 7, 7], 5)

    def test_sizes_of_the_rest(self):
        for rest in (0, 1, 1000000):
            self.assertEqual(Read([9], rest).rest, rest)
        for rest in (-1, 1000001):
            self.refused(InvalidRead, Read, [9], rest)
            self.refused(InvalidRead, Read, [], rest)

    def test_duration(self):
        self.assertEqual(Read([200, 300], 100).duration(), 600)
        self.assertEqual(Read([1000000] * 60000, 1000000).duration(), 60001000000)

    def test_equal_reads(self):
        self.assertTrue(Read([1, 2], 3) == Read([1, 2], 3))
        self.assertFalse(Read([1, 2], 3) != Read([1, 2], 3))
        self.assertTrue(Read([], 0) == Read([], 0))

    def test_different_reads(self):
        read = Read([1, 2], 3)
        for other in (Read([1, 2], 4), Read([2, 1], 3), Read([1], 3), Read([1, 2, 3], 3), Read([], 3), Read([1, 2], 0)):
            self.assertFalse(read == other)
            self.assertTrue(read != other)

    def test_the_list_may_be_changed_afterwards(self):
        intervals = [10, 20]
        read = Read(intervals, 5)
        intervals.append(30)
        intervals[0] = 99
        self.assertEqual(read.intervals, (10, 20))
        self.assertEqual(read.duration(), 35)

    def test_the_list_is_not_changed(self):
        intervals = [10, 20]
        Read(intervals, 5)
        self.assertEqual(intervals, [10, 20])


class FluxOfTest(FluxTest):

    def test_no_cells(self):
        self.assertTrue(flux_of([], 100) == Read([], 0))

    def test_zeros_alone(self):
        self.assertTrue(flux_of([0, 0, 0], 50) == Read([], 150))

    def test_ones_alone(self):
        self.assertTrue(flux_of([1, 1, 1], 50) == Read([50, 50, 50], 0))

    def test_mixed_cells(self):
        self.assertTrue(flux_of([0, 1, 0, 0, 1, 0], 100) == Read([200, 300], 100))
        self.assertTrue(flux_of([1, 0, 0, 0, 1], 10) == Read([10, 40], 0))
        self.assertTrue(flux_of([0, 0, 0, 1, 1, 0, 0], 11) == Read([44, 11], 22))

    def test_lengths_of_a_cell(self):
        self.assertTrue(flux_of([0, 1, 0], 10) == Read([20], 10))
        self.assertTrue(flux_of([0, 1, 0], 1000) == Read([2000], 1000))
        for cell in WRONG_CELLS:
            self.refused(InvalidCell, flux_of, [0, 1, 0], cell)
            self.refused(InvalidCell, flux_of, [], cell)

    def test_cells_that_break_point_5(self):
        self.assertEqual(flux_of([0] * 999 + [1], 1000).intervals, (1000000,))
        self.refused(InvalidRead, flux_of, [0] * 1000 + [1], 1000)
        self.assertEqual(flux_of([0] * 1000, 1000).rest, 1000000)
        self.refused(InvalidRead, flux_of, [0] * 1001, 1000)
        self.assertEqual(len(flux_of([1] * 60000, 10).intervals), 60000)
        self.refused(InvalidRead, flux_of, [1] * 60001, 10)

    def test_the_length_of_a_cell_is_looked_at_first(self):
        self.refused(InvalidCell, flux_of, [1] * 60001, 9)
        self.refused(InvalidCell, flux_of, [0] * 2000, 1001)

    def test_the_cells_are_not_changed(self):
        cells = [0, 1, 0, 0, 1]
        flux_of(cells, 10)
        self.assertEqual(cells, [0, 1, 0, 0, 1])


class FixedTest(FluxTest):

    def test_cells_come_back(self):
        source = random.Random(6)
        for cell in (10, 11, 80, 999, 1000):
            for _ in range(10):
                cells = [source.randrange(2) for _ in range(source.randrange(60))]
                self.assertEqual(fixed_cells(flux_of(cells, cell), cell), cells)

    def test_the_middle_between_two_cells(self):
        self.assertEqual(fixed_cells(Read([249], 0), 100), run(2))
        self.assertEqual(fixed_cells(Read([250], 0), 100), run(3))
        self.assertEqual(fixed_cells(Read([251], 0), 100), run(3))
        self.assertEqual(fixed_cells(Read([17], 0), 11), run(2))
        self.assertEqual(fixed_cells(Read([16], 0), 11), run(1))
        self.assertEqual(fixed_cells(Read([149, 150, 151], 0), 100), run(1) + run(2) + run(2))

    def test_an_interval_stands_for_at_least_one_cell(self):
        for ticks in (1, 49, 50, 100):
            self.assertEqual(fixed_cells(Read([ticks], 0), 100), [1], ticks)
        self.assertEqual(fixed_cells(Read([1, 1, 1], 0), 1000), [1, 1, 1])

    def test_the_rest(self):
        for rest, count in ((0, 0), (49, 0), (50, 1), (51, 1), (149, 1), (150, 2), (1000000, 10000)):
            self.assertEqual(fixed_cells(Read([], rest), 100), [0] * count, rest)
            self.assertEqual(fixed_cells(Read([100], rest), 100), [1] + [0] * count, rest)
        self.assertEqual(fixed_cells(Read([], 16), 11), [0])
        self.assertEqual(fixed_cells(Read([], 5), 11), [])
        self.assertEqual(fixed_cells(Read([], 6), 11), [0])

    def test_long_intervals(self):
        self.assertEqual(fixed_cells(Read([1000000], 0), 1000), run(1000))
        self.assertEqual(fixed_cells(Read([1000000], 0), 10), run(100000))

    def test_differences_of_less_than_half_a_cell(self):
        source = random.Random(7)
        for cell in (10, 13, 100, 1000):
            most = (cell - 1) // 2
            for _ in range(10):
                cells = [1 if source.randrange(3) == 0 else 0 for _ in range(80)] + [1, 0]
                read = flux_of(cells, cell)
                intervals = [max(1, ticks + source.choice((-most, 0, most))) for ticks in read.intervals]
                rest = read.rest + source.choice((-most, most))
                self.assertEqual(fixed_cells(Read(intervals, rest), cell), cells)

    def test_lengths_of_a_cell(self):
        self.assertEqual(fixed_cells(Read([20], 10), 10), [0, 1, 0])
        self.assertEqual(fixed_cells(Read([2000], 1000), 1000), [0, 1, 0])
        for cell in WRONG_CELLS:
            self.refused(InvalidCell, fixed_cells, Read([200], 10), cell)
            self.refused(InvalidCell, fixed_cells, Read([], 0), cell)


class FollowingTest(FluxTest):

    def test_cells_come_back(self):
        source = random.Random(8)
        for cell in (10, 11, 80, 1000):
            for _ in range(10):
                cells = [source.randrange(2) for _ in range(source.randrange(60))]
                self.assertEqual(following_cells(flux_of(cells, cell), cell), cells)

    def test_the_example(self):
        self.assertEqual(following_cells(Read([230, 340], 60), 100), [0, 1, 0, 0, 1, 0])

    def test_the_middle_between_two_cells(self):
        for ticks, count in ((1, 1), (50, 1), (149, 1), (150, 2), (249, 2), (250, 3), (251, 3)):
            self.assertEqual(following_cells(Read([ticks], 0), 100), run(count), ticks)

    def test_the_rest(self):
        for rest, count in ((0, 0), (49, 0), (50, 1), (149, 1), (150, 2)):
            self.assertEqual(following_cells(Read([], rest), 100), [0] * count, rest)

    def test_the_rest_is_taken_with_the_last_period(self):
        # The period is 1652 at the end: half of it is 51 and five eighths of a tick.
        self.assertEqual(following_cells(Read([230, 340], 51), 100), run(2) + run(3))
        self.assertEqual(following_cells(Read([230, 340], 52), 100), run(2) + run(3) + [0])

    def test_the_quotient_rounds_down(self):
        # The error is -16 and the quotient by 24 is -1: the period is 1599, not 1600.
        self.assertEqual(following_cells(Read([299], 1649), 100), run(3) + [0] * 17)
        self.assertEqual(following_cells(Read([299], 1648), 100), run(3) + [0] * 16)
        # The error is 16 and the quotient by 24 is 0: the period stays.
        self.assertEqual(following_cells(Read([301], 1650), 100), run(3) + [0] * 17)
        self.assertEqual(following_cells(Read([301], 1649), 100), run(3) + [0] * 16)

    def test_the_lowest_period(self):
        # With the period 1200 a rest of 187 and a half ticks stands between 2 and 3 cells.
        for rest, count in ((187, 2), (188, 3)):
            read = Read([60] * 40, rest)
            self.assertEqual(following_cells(read, 100), [1] * 40 + [0] * count)

    def test_the_lowest_period_is_reached(self):
        self.assertEqual(following_cells(Read([70] * 60, 37), 100), [1] * 60)
        self.assertEqual(following_cells(Read([70] * 60, 38), 100), [1] * 60 + [0])

    def test_the_greatest_period(self):
        # With the period 2000 a rest of 312 and a half ticks stands between 2 and 3 cells.
        for rest, count in ((312, 2), (313, 3)):
            read = Read([140] * 40, rest)
            self.assertEqual(following_cells(read, 100), [1] * 40 + [0] * count)

    def test_a_speed_that_drifts(self):
        source = random.Random(9)
        for step in (3, -3):
            cells = []
            intervals = []
            for at in range(60):
                count = source.choice((2, 3, 4))
                cells += run(count)
                intervals.append(count * (1000 + step * at) // 10)
            read = Read(intervals, 0)
            self.assertEqual(following_cells(read, 100), cells)
            self.assertNotEqual(fixed_cells(read, 100), cells)

    def test_any_reads_step_by_step(self):
        source = random.Random(10)
        for at in range(300):
            cell = source.choice((10, 13, 50, 100, 333, 1000))
            intervals = [source.randrange(1, 5 * cell) for _ in range(source.randrange(1, 30))]
            read = Read(intervals, source.randrange(40 * cell))
            self.assertEqual(following_cells(read, cell), model_following(read, cell), at)

    def test_lengths_of_a_cell(self):
        self.assertEqual(following_cells(Read([20], 10), 10), [0, 1, 0])
        self.assertEqual(following_cells(Read([2000], 1000), 1000), [0, 1, 0])
        for cell in WRONG_CELLS:
            self.refused(InvalidCell, following_cells, Read([200], 10), cell)
            self.refused(InvalidCell, following_cells, Read([], 0), cell)


class WeakTest(FluxTest):

    def test_equal_lists_have_no_weak_places(self):
        self.assertEqual(weak_places([[1, 0, 1], [1, 0, 1]]), [])
        self.assertEqual(steady_cells([[1, 0, 1], [1, 0, 1]]), [1, 0, 1])

    def test_one_list(self):
        self.assertEqual(weak_places([[1, 0, 1]]), [])
        self.assertEqual(steady_cells([[1, 0, 1]]), [1, 0, 1])

    def test_weak_places(self):
        self.assertEqual(weak_places([[1, 0, 1, 0], [0, 0, 1, 1]]), [0, 3])
        self.assertEqual(weak_places([[1, 0, 1], [1, 0, 1], [1, 1, 1]]), [1])
        self.assertEqual(weak_places([[1, 1, 1], [1, 0, 1], [1, 0, 0], [1, 0, 1]]), [1, 2])

    def test_places_go_up_to_the_shortest_list(self):
        self.assertEqual(weak_places([[1, 0, 1, 0], [0, 0], [0, 1, 1]]), [0, 1])
        self.assertEqual(weak_places([[1, 0], [0, 0, 1, 1]]), [0])
        self.assertEqual(steady_cells([[1, 0, 1, 0], [1, 1], [0, 1, 1]]), [1, 1])
        self.assertEqual(weak_places([[], [1, 1]]), [])
        self.assertEqual(steady_cells([[1, 1], []]), [])

    def test_the_bit_that_more_lists_have(self):
        self.assertEqual(steady_cells([[1, 0, 1], [1, 0, 0], [0, 0, 1]]), [1, 0, 1])
        self.assertEqual(steady_cells([[0, 1], [0, 1], [1, 0], [0, 1]]), [0, 1])

    def test_ties_give_0(self):
        self.assertEqual(steady_cells([[1, 0, 1, 0], [0, 1, 1, 0]]), [0, 0, 1, 0])
        self.assertEqual(steady_cells([[1], [1], [0], [0]]), [0])

    def test_no_list(self):
        self.refused(DifferentLengths, weak_places, [])
        self.refused(DifferentLengths, steady_cells, [])

    def test_the_lists_are_not_changed(self):
        lists = [[1, 0, 1], [0, 0]]
        weak_places(lists).append(9)
        steady_cells(lists).append(9)
        self.assertEqual(lists, [[1, 0, 1], [0, 0]])

    def test_the_steady_list_is_a_new_one(self):
        cells = [1, 0]
        steady_cells([cells])[0] = 7
        self.assertEqual(cells, [1, 0])


if __name__ == "__main__":
    unittest.main()
