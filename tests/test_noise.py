"""Points 57 and 58: discwright/noise.py."""

import random
import unittest
from fractions import Fraction

from discwright.errors import DiscError, InvalidRead
from discwright.flux import Read, fixed_cells, flux_of, following_cells
from discwright.noise import at_speed, jittered, scratched
from discwright.tracks import Sector, found_sectors, track_cells

READ = Read([200, 300, 400, 250], 90)


def nearest(number):
    """A fraction rounded, halves upwards."""
    return (number + Fraction(1, 2)).__floor__()


def any_cells(source, count, most):
    """Cells with so many intervals of at most so many cells, and a rest likewise."""
    cells = []
    for _ in range(count):
        cells += [0] * source.randrange(most) + [1]
    return cells + [0] * source.randrange(most + 1)


class NoiseTest(unittest.TestCase):

    def refused(self, call, *arguments):
        with self.assertRaises(DiscError) as caught:
            call(*arguments)
        self.assertIs(type(caught.exception), InvalidRead, arguments)

    def told(self, read, intervals, rest):
        self.assertIs(type(read), Read)
        self.assertEqual([read.intervals, read.rest], [tuple(intervals), rest])


class JitterTest(NoiseTest):

    def test_as_many_amounts(self):
        self.told(jittered(READ, [1, -2, 0, 5]), [201, 298, 400, 255], 90)

    def test_fewer_amounts(self):
        self.told(jittered(READ, [7]), [207, 307, 407, 257], 90)
        self.told(jittered(READ, [1, -1]), [201, 299, 401, 249], 90)
        self.told(jittered(READ, [1, 2, 3]), [201, 302, 403, 251], 90)

    def test_more_amounts(self):
        self.told(jittered(READ, [1, 2, 3, 4, 5, -10 ** 9]), [201, 302, 403, 254], 90)
        self.told(jittered(Read([], 5), [1, 2]), [], 5)

    def test_no_change(self):
        self.assertEqual(jittered(READ, [0]), READ)

    def test_sums(self):
        self.told(jittered(Read([5, 5], 0), [-4, 999995]), [1, 1000000], 0)
        for amounts in ([-5], [0, -5], [-5, 0], [-6], [999996], [0, 999996], [-10 ** 29], [10 ** 29]):
            self.refused(jittered, Read([5, 5], 0), amounts)

    def test_the_rest_stays(self):
        for rest in (0, 1, 90, 1000000):
            self.assertEqual(jittered(Read([50], rest), [30, 900]).rest, rest)

    def test_a_long_read(self):
        read = jittered(Read([500] * 60000, 1), [1, 2, 3, 4, 5, 6, 7])
        self.assertEqual(read.intervals, tuple(500 + 1 + at % 7 for at in range(60000)))

    def test_what_is_passed_stays(self):
        amounts = [1, 2]
        read = Read([5, 6, 7], 8)
        jittered(read, amounts)
        self.assertEqual([amounts, read], [[1, 2], Read([5, 6, 7], 8)])

    def test_the_fixed_clock_finds_the_cells(self):
        source = random.Random(58)
        for _ in range(300):
            cell = source.choice([10, 11, 12, 13, 50, 99, 100, 999, 1000])
            greatest = (cell - 1) // 2
            cells = any_cells(source, source.randrange(1, 60), source.choice([2, 4, 20]))
            amounts = [source.choice([-greatest, greatest, source.randrange(-greatest, greatest + 1)])
                       for _ in range(source.randrange(1, 80))]
            self.assertEqual(fixed_cells(jittered(flux_of(cells, cell), amounts), cell), cells)

    def test_sectors_are_found(self):
        cells = track_cells([Sector((0, 0, 1, 0), list(range(16)))])
        read = jittered(flux_of(cells, 50), [24, -24, 0, 13])
        self.assertEqual(found_sectors(fixed_cells(read, 50)), found_sectors(cells))


class SpeedTest(NoiseTest):

    def test_the_same_speed(self):
        for part in (1, 7, 1000):
            self.told(at_speed(READ, part, part), READ.intervals, READ.rest)

    def test_other_speeds(self):
        self.told(at_speed(READ, 2, 1), [400, 600, 800, 500], 180)
        self.told(at_speed(READ, 1, 2), [100, 150, 200, 125], 45)
        self.told(at_speed(READ, 1000, 999), [200, 300, 400, 250], 90)
        self.told(at_speed(READ, 1000, 1), [200000, 300000, 400000, 250000], 90000)

    def test_rounding(self):
        self.told(at_speed(Read([3, 5, 7, 4], 9), 1, 2), [2, 3, 4, 2], 5)
        self.told(at_speed(Read([1, 2, 4, 5], 7), 1, 3), [1, 1, 1, 2], 2)
        self.told(at_speed(Read([10, 11], 12), 3, 4), [8, 8], 9)

    def test_the_words_of_the_document(self):
        source = random.Random(57)
        for _ in range(300):
            intervals = [source.choice([1, 2, 3, source.randrange(1, 900)]) for _ in range(20)]
            p, q, rest = source.randrange(1, 1001), source.randrange(1, 1001), source.randrange(900)
            wanted = [max(1, nearest(Fraction(ticks * p, q))) for ticks in intervals]
            self.told(at_speed(Read(intervals, rest), p, q), wanted, nearest(Fraction(rest * p, q)))

    def test_parts(self):
        for part in (1, 2, 999, 1000):
            at_speed(Read([1000], 0), part, 1000)
            self.assertEqual(at_speed(Read([1000], 0), 1000, part).intervals, (nearest(Fraction(10 ** 6, part)),))
        for part in (0, -1, -1000, 1001, 10 ** 29, -(10 ** 29)):
            self.refused(at_speed, READ, part, 1)
            self.refused(at_speed, READ, 1, part)
            self.refused(at_speed, READ, part, part)
            self.refused(at_speed, Read([], 0), part, 5)
            self.refused(at_speed, Read([], 0), 5, part)

    def test_short_intervals(self):
        self.told(at_speed(Read([1, 499, 500, 1499, 1500], 499), 1, 1000), [1, 1, 1, 1, 2], 0)
        self.told(at_speed(Read([1, 2, 3], 1), 1, 9), [1, 1, 1], 0)

    def test_the_rest_becomes_0(self):
        self.told(at_speed(Read([], 499), 1, 1000), [], 0)
        self.told(at_speed(Read([], 500), 1, 1000), [], 1)
        self.told(at_speed(Read([], 0), 1000, 1), [], 0)

    def test_results_out_of_range(self):
        self.told(at_speed(Read([1000], 1000), 1000, 1), [1000000], 1000000)
        self.refused(at_speed, Read([1001], 0), 1000, 1)
        self.refused(at_speed, Read([5, 1001, 5], 0), 1000, 1)
        self.refused(at_speed, Read([5], 1001), 1000, 1)
        self.refused(at_speed, Read([1000000], 0), 1000, 999)
        self.refused(at_speed, Read([], 1000000), 1000, 999)
        self.told(at_speed(Read([1000000], 1000000), 999, 1000), [999000], 999000)

    def test_the_read_stays(self):
        at_speed(READ, 3, 2)
        self.assertEqual(READ, Read([200, 300, 400, 250], 90))

    def finds(self, cells, cell, p, q):
        self.assertEqual(following_cells(at_speed(flux_of(cells, cell), p, q), cell), cells, (cell, p, q))

    def test_the_following_clock_finds_the_cells(self):
        source = random.Random(581)
        speeds = [(15, 16), (17, 16), (1, 1), (938, 1000), (1000, 942), (990, 932), (31, 32), (33, 32)]
        for p, q in speeds:
            self.assertTrue(Fraction(15, 16) <= Fraction(p, q) <= Fraction(17, 16))
            for cell in (80, 81, 83, 97, 100, 999, 1000):
                for _ in range(12):
                    self.finds(any_cells(source, source.randrange(0, 80), 4), cell, p, q)

    def test_the_following_clock_at_its_edges(self):
        """All intervals alike, and the longest ones first."""
        for p, q in ((15, 16), (17, 16)):
            for cell in range(80, 120):
                for count in (1, 2, 3, 4):
                    for rest in range(5):
                        self.finds(([0] * (count - 1) + [1]) * 20 + [0] * rest, cell, p, q)
                self.finds([0, 0, 0, 1] + [1] * 5 + [0, 0, 0, 1] * 3 + [1, 0, 1] * 4 + [0] * 4, cell, p, q)

    def test_all_speeds_of_the_promise(self):
        source = random.Random(582)
        cells = any_cells(source, 60, 4)
        for q in range(1, 1001, 7):
            for p in range(-(-15 * q // 16), min(1000, 17 * q // 16) + 1, max(1, q // 60)):
                self.finds(cells, 80, p, q)


class ScratchTest(NoiseTest):

    def test_the_first_interval(self):
        self.told(scratched(READ, 0, 1), [500, 400, 250], 90)
        self.told(scratched(READ, 0, 2), [900, 250], 90)
        self.told(scratched(READ, 0, 3), [1150], 90)

    def test_in_the_middle(self):
        self.told(scratched(READ, 1, 1), [200, 700, 250], 90)
        self.told(scratched(READ, 1, 2), [200, 950], 90)
        self.told(scratched(READ, 2, 1), [200, 300, 650], 90)

    def test_the_last_interval(self):
        for count in (0, 1, 2, 100):
            self.told(scratched(READ, 3, count), READ.intervals, 90)

    def test_behind_the_end(self):
        for first in (4, 5, 100, 10 ** 29):
            for count in (0, 1, 3, 10 ** 29):
                self.told(scratched(READ, first, count), READ.intervals, 90)
        self.told(scratched(Read([], 3), 0, 5), [], 3)

    def test_before_0(self):
        for first in (-1, -2, -4, -5, -(10 ** 29)):
            for count in (0, 1, 2, 3, 10, 10 ** 29):
                self.told(scratched(READ, first, count), READ.intervals, 90)

    def test_the_count_0(self):
        for first in range(4):
            self.told(scratched(READ, first, 0), READ.intervals, 90)

    def test_a_count_beyond_the_end(self):
        self.told(scratched(READ, 0, 4), [1150], 90)
        self.told(scratched(READ, 1, 99), [200, 950], 90)
        self.told(scratched(READ, 2, 10 ** 29), [200, 300, 650], 90)

    def test_sums(self):
        self.told(scratched(Read([500000, 500000, 1], 0), 0, 1), [1000000, 1], 0)
        self.told(scratched(Read([1, 999999], 0), 0, 5), [1000000], 0)
        self.refused(scratched, Read([500000, 500001, 1], 0), 0, 1)
        self.refused(scratched, Read([1, 1000000], 0), 0, 1)
        self.refused(scratched, Read([1, 500000, 500000, 1], 0), 1, 2)
        self.refused(scratched, Read([1000000] * 60000, 0), 5, 59999)

    def test_the_rest_stays(self):
        self.told(scratched(Read([1, 2], 1000000), 0, 9), [3], 1000000)

    def test_the_read_stays(self):
        read = Read([1, 2, 3], 4)
        scratched(read, 0, 2)
        self.assertEqual(read, Read([1, 2, 3], 4))

    def test_changes_between_them_are_not_there(self):
        cells = [1, 0, 1, 1, 0, 0, 1, 0]
        read = scratched(flux_of(cells, 100), 1, 2)
        self.assertEqual(fixed_cells(read, 100), [1, 0, 0, 0, 0, 0, 1, 0])


if __name__ == "__main__":
    unittest.main()
