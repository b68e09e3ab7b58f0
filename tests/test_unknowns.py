"""Point 41: discwright/unknowns.py."""

import itertools
import random
import unittest

from discwright.errors import DiscError, InvalidUnknowns
from discwright.unknowns import crc_change, solution, solution_count
from tests.models import model_crc


def with_bit(values, place, bit):
    """Bytes of which the bit at a place is another one."""
    values = list(values)
    weight = 2 ** (7 - place % 8)
    values[place // 8] = values[place // 8] // (2 * weight) * 2 * weight + bit * weight + values[place // 8] % weight
    return values


def flipped(values, place):
    return with_bit(values, place, 1 - values[place // 8] // 2 ** (7 - place % 8) % 2)


def model_solutions(values, unknown, wanted):
    """All ways to set the unknown bits, tried one by one."""
    found = []
    for bits in itertools.product((0, 1), repeat=len(unknown)):
        tried = values
        for place, bit in zip(unknown, bits):
            tried = with_bit(tried, place, bit)
        if model_crc(tried) == wanted:
            found.append(tried)
    return found


class UnknownsTest(unittest.TestCase):

    def told(self, values, unknown, wanted, solutions):
        self.assertEqual(solution_count(values, unknown, wanted), len(solutions))
        self.assertEqual(solution(values, unknown, wanted), solutions[0] if len(solutions) == 1 else None)

    def refused(self, values, unknown):
        for call in (solution, solution_count):
            with self.assertRaises(DiscError) as caught:
                call(values, unknown, model_crc(values))
            self.assertIs(type(caught.exception), InvalidUnknowns)


class ChangeTest(UnknownsTest):

    def test_all_places_of_short_lists(self):
        source = random.Random(41)
        for length in range(1, 8):
            for place in range(8 * length):
                values = [source.randrange(256) for _ in range(length)]
                self.assertEqual(crc_change(length, place), model_crc(values) ^ model_crc(flipped(values, place)))

    def test_long_lists(self):
        source = random.Random(42)
        for length in (100, 512, 4000, 4095, 4096, 4097, 8200):
            values = [source.randrange(256) for _ in range(length)]
            for place in (0, 1, 7, 8, source.randrange(8 * length), 8 * length - 1):
                self.assertEqual(crc_change(length, place), model_crc(values) ^ model_crc(flipped(values, place)))

    def test_the_last_bits(self):
        for length in (1, 2, 60):
            self.assertEqual([crc_change(length, 8 * length - 1 - back) for back in range(4)], [4129, 8258, 16516, 33032])

    def test_changes_of_several_bits(self):
        source = random.Random(43)
        for _ in range(20):
            values = [source.randrange(256) for _ in range(30)]
            changed, change = values, 0
            for place in source.sample(range(240), 6):
                changed = flipped(changed, place)
                change = change ^ crc_change(30, place)
            self.assertEqual(model_crc(changed), model_crc(values) ^ change)


class SolutionTest(UnknownsTest):

    def test_no_unknown_bit(self):
        for values in ([], [7], [1, 2, 3]):
            self.told(values, [], model_crc(values), [values])
            self.told(values, [], model_crc(values) ^ 1, [])
            self.told(values, [], model_crc(values) ^ 32768, [])

    def test_one_unknown_bit(self):
        values = [1, 50, 255, 0]
        for place in range(32):
            for bit in (0, 1):
                right = with_bit(values, place, bit)
                for passed in (values, right, flipped(right, place)):
                    self.told(passed, [place], model_crc(right), [right])
            self.told(values, [place], model_crc(values) ^ crc_change(4, (place + 1) % 32), [])

    def test_one_solution(self):
        source = random.Random(44)
        for count in (2, 5, 8, 10):
            for _ in range(10):
                right = [source.randrange(256) for _ in range(40)]
                unknown = sorted(source.sample(range(320), count))
                passed = right
                for place in unknown:
                    passed = with_bit(passed, place, source.randrange(2))
                self.told(passed, unknown, model_crc(right), model_solutions(passed, unknown, model_crc(right)))

    def test_no_solution(self):
        source = random.Random(45)
        empty = 0
        for _ in range(40):
            values = [source.randrange(256) for _ in range(20)]
            unknown = sorted(source.sample(range(160), 5))
            wanted = source.randrange(65536)
            found = model_solutions(values, unknown, wanted)
            empty += 1 if not found else 0
            self.told(values, unknown, wanted, found)
        self.assertGreater(empty, 30)

    def test_several_solutions(self):
        """Sixteen bits behind each other reach each CRC, so each further bit doubles the number of solutions."""
        source = random.Random(46)
        for count in range(16, 25):
            values = [source.randrange(256) for _ in range(3)]
            unknown = list(range(24 - count, 24))
            self.assertEqual(solution_count(values, unknown, source.randrange(65536)), 2 ** (count - 16))
        values, unknown = [1, 2, 3], list(range(8, 24))
        self.assertEqual(solution(values, unknown, model_crc([1, 200, 100])), [1, 200, 100])
        self.assertIs(solution(values, list(range(7, 24)), model_crc([1, 200, 100])), None)

    def test_as_many_as_all_ways_tried_one_by_one(self):
        source = random.Random(47)
        counts = {}
        for _ in range(150):
            length = source.randrange(1, 4)
            count = source.randrange(0, min(8 * length, 8) + 1)
            values = [source.randrange(256) for _ in range(length)]
            unknown = sorted(source.sample(range(8 * length), count))
            wanted = source.choice((model_crc(values), source.randrange(65536)))
            found = model_solutions(values, unknown, wanted)
            counts[len(found)] = True
            self.told(values, unknown, wanted, found)
        self.assertEqual(sorted(counts)[:2], [0, 1])

    def test_bits_that_give_the_same_change(self):
        """Places that are 32767 bits apart do, so changing both of them changes nothing."""
        values = [0] * 4200
        unknown = [10, 10 + 32767]
        self.assertEqual(crc_change(4200, 10), crc_change(4200, 10 + 32767))
        self.assertEqual(solution_count(values, unknown, model_crc(values)), 2)
        self.assertEqual(solution_count(values, unknown, model_crc(flipped(values, 10))), 2)
        self.assertEqual(solution_count(values, unknown, model_crc(flipped(values, 11))), 0)
        self.assertIs(solution(values, unknown, model_crc(values)), None)
        three = unknown + [10 + 32768]
        self.assertEqual(solution_count(values, three, model_crc(flipped(values, 10 + 32768))), 2)

    def test_bits_that_depend_on_others(self):
        """A place that is added to ones that reach its change doubles the number of solutions, or leaves none."""
        values = [5, 6, 7, 8]
        changes = [crc_change(4, place) for place in range(32)]
        for first in range(0, 32 - 18):
            unknown = list(range(first, first + 18))
            reached = {0}
            for place in unknown:
                reached |= {change ^ changes[place] for change in reached}
            self.assertEqual(solution_count(values, unknown, model_crc(values)), 2 ** 18 // len(reached))

    def test_24_and_25_unknown_bits(self):
        values = [200] * 30
        unknown = list(range(0, 240, 10))
        self.assertEqual(len(unknown), 24)
        self.assertGreater(solution_count(values, unknown, model_crc(values)), 0)
        self.refused(values, unknown + [239])
        self.refused(values, list(range(25)))
        self.assertEqual(solution_count(values, list(range(24)), 5), 256)

    def test_many_unknown_bits_in_few_bytes(self):
        self.assertEqual(solution_count([0], list(range(8)), model_crc([77])), 1)
        self.assertEqual(solution([0], list(range(8)), model_crc([77])), [77])
        self.assertEqual(solution([255, 255], list(range(16)), model_crc([3, 140])), [3, 140])
        self.assertEqual(solution_count([9, 9], list(range(16)), 54321), 1)
        self.assertEqual(solution_count([0, 0, 0], list(range(24)), 0), 256)
        self.assertEqual(sum(solution_count([0], list(range(8)), wanted) for wanted in range(65536)), 256)

    def test_bits_that_stand_at_unknown_places_do_not_matter(self):
        source = random.Random(48)
        right = [10, 20, 30, 40]
        unknown = [0, 7, 8, 19, 31]
        for _ in range(20):
            passed = right
            for place in unknown:
                passed = with_bit(passed, place, source.randrange(2))
            self.told(passed, unknown, model_crc(right), [right])

    def test_the_kinds_of_values(self):
        self.assertIs(type(solution([1, 2], [3], model_crc([1, 2]))), list)
        self.assertIs(type(solution_count([1, 2], [3], model_crc([1, 2]))), int)

    def test_the_lists_stay(self):
        values, unknown = [255, 255], [3, 9]
        wanted = model_crc([239, 191])
        self.assertEqual(solution(values, unknown, wanted), [239, 191])
        solution_count(values, unknown, wanted)
        self.assertEqual([values, unknown], [[255, 255], [3, 9]])
        values = [1, 2]
        told = solution(values, [], model_crc(values))
        told.append(5)
        told[0] = 9
        self.assertEqual(values, [1, 2])


class InvalidTest(UnknownsTest):

    def test_places_that_do_not_ascend(self):
        for unknown in ([1, 0], [3, 7, 5], [0, 1, 2, 3, 2], [23, 0]):
            self.refused([1, 2, 3], unknown)

    def test_a_place_twice(self):
        for unknown in ([0, 0], [5, 5], [1, 3, 3, 7], [23, 23]):
            self.refused([1, 2, 3], unknown)

    def test_places_below_0(self):
        for unknown in ([-1], [-1, 5], [-8, -7], [-24]):
            self.refused([1, 2, 3], unknown)

    def test_places_beyond_the_last_bit(self):
        self.assertEqual(solution([1, 2, 3], [23], model_crc([1, 2, 2])), [1, 2, 2])
        for unknown in ([24], [0, 24], [100], [23, 24], [10 ** 20]):
            self.refused([1, 2, 3], unknown)
        self.refused([], [0])

    def test_too_many_places(self):
        self.refused([1, 2, 3], list(range(25)))
        self.refused([0] * 100, list(range(25)))
        self.refused([0] * 100, list(range(200)))


if __name__ == "__main__":
    unittest.main()
