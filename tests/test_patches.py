"""Points 50 to 53: discwright/patches.py."""

import random
import unittest

from discwright.bytework import crc, two_bytes
from discwright.errors import BadBytes, DifferentLengths, DiscError, DoesNotFit, InvalidPatch
from discwright.patches import Patch, difference, fine_difference, patch_bytes, read_patch
from tests.models import model_number, with_model_crc


def model_bytes(changes):
    """Point 53, number by number, with whatever the changes say."""
    values = [80, 65] + model_number(len(changes))
    end = 0
    for offset, old, new in changes:
        values += model_number(offset - end) + model_number(len(old)) + model_number(len(new)) + list(old) + list(new)
        end = offset + len(old)
    return with_model_crc(values)


def any_changes(source, length):
    """Changes that fit a list of a length, with the list and what it becomes."""
    values = [source.randrange(256) for _ in range(length)]
    changes, result = [], []
    at = end = 0
    while at <= length:
        count = min(source.randrange(4), length - at)
        old = tuple(values[at:at + count])
        new = tuple(source.randrange(256) for _ in range(source.randrange(4)))
        if old != new and source.randrange(3):
            changes.append((at, old, new))
            result += values[end:at] + list(new)
            end = at + count
        at += count + 1 + source.randrange(5)
    return changes, values, result + values[end:]


class PatchesTest(unittest.TestCase):

    def refused(self, changes):
        with self.assertRaises(DiscError) as caught:
            Patch(changes)
        self.assertIs(type(caught.exception), InvalidPatch)

    def does_not_fit(self, changes, values, index):
        kept = list(values)
        with self.assertRaises(DiscError) as caught:
            Patch(changes).apply(values)
        self.assertIs(type(caught.exception), DoesNotFit)
        self.assertEqual([caught.exception.index, values], [index, kept])


class PatchTest(PatchesTest):

    def test_the_field(self):
        changes = [(1, (2, 3), (9, 9)), (4, (), (7,)), (5, (1,), ())]
        patch = Patch(changes)
        self.assertEqual(patch.changes, tuple(changes))
        self.assertIs(type(patch.changes), tuple)
        self.assertEqual([type(change) for change in patch.changes], [tuple] * 3)
        self.assertEqual(Patch([]).changes, ())

    def test_the_changes_are_copied(self):
        changes = [(1, (2,), (3,))]
        patch = Patch(changes)
        changes.append((9, (1,), ()))
        self.assertEqual(patch.changes, ((1, (2,), (3,)),))

    def test_equal_patches(self):
        first = [(1, (2,), (3,)), (5, (), (1,))]
        self.assertTrue(Patch(first) == Patch(list(first)))
        self.assertTrue(Patch([]) == Patch([]))
        for other in ([], first[:1], first[1:], [(0, (2,), (3,)), first[1]], [first[0], (5, (1,), ())],
                      [(1, (2,), (4,)), first[1]], [(1, (3,), (2,)), first[1]], first + [(9, (1,), (2,))]):
            self.assertFalse(Patch(first) == Patch(other))
        self.assertFalse(Patch(first) == tuple(first))

    def test_offsets_below_0(self):
        self.assertEqual(Patch([(0, (1,), (2,))]).changes, ((0, (1,), (2,)),))
        for offset in (-1, -2, -100):
            self.refused([(offset, (1,), (2,))])
            self.refused([(offset, (), (2,)), (5, (1,), (2,))])
            self.refused([(offset, (1, 1, 1), (2,))])

    def test_offsets_that_do_not_ascend(self):
        for offsets in ((5, 5), (5, 4), (5, 0), (0, 0)):
            for old in ((1,), ()):
                self.refused([(offset, old, (2,)) for offset in offsets])
        self.refused([(0, (1,), (2,)), (9, (1,), (2,)), (5, (1,), (2,))])
        self.refused([(9, (), (2,)), (5, (), (2,)), (0, (), (2,))])

    def test_old_bytes_that_overlap(self):
        for offset in (1, 2, 3):
            self.refused([(0, (1, 2, 3, 4), (2,)), (offset, (1,), (2,))])
            self.refused([(0, (1, 2, 3, 4), (2,)), (offset, (), (2,))])
            self.refused([(0, (5,), ()), (10, (1, 2, 3, 4), (2,)), (10 + offset, (1, 2, 3, 4), (2,))])

    def test_nothing_between_two_changes(self):
        for count in (0, 1, 2, 5):
            old = (1,) * count
            self.refused([(3, old, (2,)), (3 + count, (1,), (2,))])
            self.refused([(3, old, (2,)), (3 + count, (), (2,))])
            self.assertEqual(len(Patch([(3, old, (2,) * 9), (4 + count, (1,), (2,))]).changes), 2)
            self.assertEqual(len(Patch([(3, old, (2,) * 9), (4 + count, (), (2,))]).changes), 2)

    def test_no_bytes_at_all(self):
        self.refused([(0, (), ())])
        self.refused([(0, (1,), ()), (7, (), ())])

    def test_equal_bytes(self):
        for values in ((1,), (1, 2, 3), (0,) * 100):
            self.refused([(0, values, values)])
            self.refused([(0, (5,), (6,)), (9, values, values), (500, (5,), (6,))])
            self.assertEqual(len(Patch([(0, values, values + (0,))]).changes), 1)
            self.assertEqual(len(Patch([(0, values, values[:-1])]).changes), 1)
        Patch([(0, (1, 2), (2, 1))])

    def test_values_that_are_no_bytes(self):
        Patch([(0, (0, 255), (255, 0))])
        for value in (-1, 256, 1000):
            self.refused([(0, (value,), (2,))])
            self.refused([(0, (1,), (value,))])
            self.refused([(0, (), (1, 2, value))])
            self.refused([(0, (1, value), ())])
            self.refused([(0, (1,), (2,)), (7, (value, 1), (2,))])

    def test_500_and_501_changes(self):
        changes = [(2 * at, (1,), (2,)) for at in range(501)]
        self.assertEqual(len(Patch(changes[:500]).changes), 500)
        self.refused(changes)
        self.assertEqual(Patch(changes[:500]).apply([1] * 1000), [2, 1] * 500)

    def test_great_offsets(self):
        self.assertEqual(Patch([(10 ** 20, (1,), (2,))]).changes, ((10 ** 20, (1,), (2,)),))


class ApplyTest(PatchesTest):

    def test_one_change(self):
        values = [1, 2, 3, 4]
        for change, told in (
            ((1, (2, 3), (9, 9)), [1, 9, 9, 4]), ((0, (1,), ()), [2, 3, 4]), ((0, (), (9,)), [9, 1, 2, 3, 4]),
            ((4, (), (9, 8)), [1, 2, 3, 4, 9, 8]), ((3, (4,), (9, 8)), [1, 2, 3, 9, 8]), ((3, (4,), ()), [1, 2, 3]),
            ((0, (1, 2, 3, 4), ()), []), ((2, (), (7,)), [1, 2, 7, 3, 4]), ((0, (1, 2, 3, 4), (4, 3, 2, 1)), [4, 3, 2, 1]),
        ):
            self.assertEqual(Patch([change]).apply(values), told)
        self.assertEqual(values, [1, 2, 3, 4])

    def test_offsets_are_those_of_the_old_list(self):
        patch = Patch([(0, (), (9, 9, 9)), (2, (3,), ()), (4, (5,), (50, 51)), (6, (), (7,))])
        self.assertEqual(patch.apply([1, 2, 3, 4, 5, 6]), [9, 9, 9, 1, 2, 4, 50, 51, 6, 7])

    def test_no_change(self):
        values = [1, 2]
        told = Patch([]).apply(values)
        self.assertEqual(told, [1, 2])
        told.append(3)
        self.assertEqual(values, [1, 2])
        self.assertEqual(Patch([]).apply([]), [])

    def test_an_empty_list(self):
        self.assertEqual(Patch([(0, (), (1, 2))]).apply([]), [1, 2])
        self.does_not_fit([(0, (1,), ())], [], 0)
        self.does_not_fit([(1, (), (1,))], [], 0)

    def test_old_bytes_that_do_not_stand_there(self):
        values = [1, 2, 3, 4]
        for change in ((0, (2,), (9,)), (1, (2, 4), (9,)), (1, (1, 2), ()), (3, (3,), ()), (0, (1, 2, 3, 5), ())):
            self.does_not_fit([change], values, 0)
        self.does_not_fit([(0, (1,), (9,)), (2, (4,), (9,))], values, 1)
        self.does_not_fit([(0, (1,), (9,)), (2, (4,), (9,)), (9, (1,), ())], values, 1)
        self.does_not_fit([(0, (2,), (9,)), (2, (4,), (9,))], values, 0)

    def test_old_bytes_that_go_beyond_the_list(self):
        for change in ((3, (4, 5), ()), (3, (4, 4), (1,)), (4, (1,), ()), (0, (1, 2, 3, 4, 5), (7,)), (2, (3, 4, 0), ())):
            self.does_not_fit([change], [1, 2, 3, 4], 0)

    def test_offsets_that_are_too_great(self):
        values = [1, 2, 3, 4]
        self.assertEqual(Patch([(4, (), (9,))]).apply(values), [1, 2, 3, 4, 9])
        for offset in (5, 6, 100, 10 ** 20):
            self.does_not_fit([(offset, (), (9,))], values, 0)
            self.does_not_fit([(offset, (1,), (9,))], values, 0)
            self.does_not_fit([(0, (1,), (2,)), (2, (3,), ()), (offset, (), (9,))], values, 2)

    def test_any_changes(self):
        source = random.Random(50)
        for _ in range(300):
            changes, values, told = any_changes(source, source.randrange(30))
            patch = Patch(changes)
            self.assertEqual(patch.apply(values), told)
            self.assertEqual(patch.opposite().apply(told), values)
            self.assertTrue(patch.opposite().opposite() == patch)
            self.assertTrue(read_patch(patch_bytes(patch)) == patch)

    def test_the_list_stays(self):
        values = [1, 2, 3]
        Patch([(0, (1,), ())]).apply(values).append(7)
        self.assertEqual(values, [1, 2, 3])


class OppositeTest(PatchesTest):

    def test_offsets(self):
        patch = Patch([(0, (), (9, 9, 9)), (2, (3,), ()), (4, (5,), (50, 51)), (6, (), (7,))])
        self.assertEqual(patch.opposite().changes, (
            (0, (9, 9, 9), ()), (5, (), (3,)), (6, (50, 51), (5,)), (9, (7,), ()),
        ))
        self.assertTrue(patch.opposite().opposite() == patch)
        self.assertEqual(Patch([]).opposite().changes, ())

    def test_it_takes_a_patch_back(self):
        for change in ((1, (2, 3), (9, 9)), (0, (1,), ()), (0, (), (9,)), (4, (), (9, 8)), (0, (1, 2, 3, 4), ())):
            patch = Patch([change])
            self.assertEqual(patch.opposite().apply(patch.apply([1, 2, 3, 4])), [1, 2, 3, 4])
            self.assertEqual(patch.opposite().changes, ((change[0], change[2], change[1]),))

    def test_the_patch_stays(self):
        patch = Patch([(1, (2,), (3, 4))])
        patch.opposite()
        self.assertEqual(patch.changes, ((1, (2,), (3, 4)),))

    def test_500_changes(self):
        patch = Patch([(2 * at, (1,), ()) for at in range(500)])
        self.assertEqual(patch.opposite().changes, tuple((at, (), (1,)) for at in range(500)))
        self.assertEqual(patch.opposite().apply(patch.apply([1, 0] * 500)), [1, 0] * 500)


class DifferenceTest(PatchesTest):

    def told(self, first, second, changes):
        kept = [list(first), list(second)]
        patch = difference(first, second)
        self.assertIs(type(patch), Patch)
        self.assertEqual(patch.changes, tuple(changes))
        self.assertEqual(patch.apply(first), second)
        self.assertEqual(patch.opposite().apply(second), first)
        self.assertEqual([first, second], kept)

    def test_equal_lists(self):
        for values in ([], [1], [1, 2, 3], [0] * 100):
            self.told(values, list(values), [])

    def test_one_list_is_empty(self):
        self.told([], [1, 2], [(0, (), (1, 2))])
        self.told([1, 2], [], [(0, (1, 2), ())])

    def test_one_part(self):
        self.told([1, 2, 3, 4], [1, 9, 9, 4], [(1, (2, 3), (9, 9))])
        self.told([1, 2, 3, 4], [1, 9, 3, 8], [(1, (2, 3, 4), (9, 3, 8))])
        self.told([1, 2, 3], [4, 5, 6], [(0, (1, 2, 3), (4, 5, 6))])
        self.told([1, 2, 3], [4, 2, 3], [(0, (1,), (4,))])
        self.told([1, 2, 3], [1, 2, 4], [(2, (3,), (4,))])
        self.told([1, 2, 3, 4], [1, 7, 8, 9, 4], [(1, (2, 3), (7, 8, 9))])

    def test_a_beginning_or_an_end(self):
        self.told([1, 2, 3], [1, 2], [(2, (3,), ())])
        self.told([1, 2], [1, 2, 3, 4], [(2, (), (3, 4))])
        self.told([1, 2, 3], [2, 3], [(0, (1,), ())])
        self.told([3], [1, 2, 3], [(0, (), (1, 2))])
        self.told([1, 2, 3, 4], [1, 4], [(1, (2, 3), ())])
        self.told([1, 4], [1, 2, 3, 4], [(1, (), (2, 3))])

    def test_repeated_bytes(self):
        """The beginning is taken first, and the end is that of what is left."""
        self.told([7, 7], [7, 7, 7], [(2, (), (7,))])
        self.told([7, 7, 7], [7], [(1, (7, 7), ())])
        self.told([1, 2, 1], [1, 2, 1, 2, 1], [(3, (), (2, 1))])
        self.told([1, 2, 1, 2, 1], [1, 2, 1], [(3, (2, 1), ())])
        self.told([5, 1, 1, 6], [5, 1, 6], [(2, (1,), ())])
        self.told([5, 1, 6], [5, 1, 1, 6], [(2, (), (1,))])
        self.told([1, 2, 2, 3], [1, 2, 3], [(2, (2,), ())])
        self.told([1, 1, 2, 1, 1], [1, 1, 1], [(2, (2, 1), ())])

    def test_any_lists(self):
        source = random.Random(51)
        for _ in range(300):
            first = [source.randrange(3) for _ in range(source.randrange(9))]
            second = [source.randrange(3) for _ in range(source.randrange(9))]
            start = 0
            while start < min(len(first), len(second)) and first[start] == second[start]:
                start += 1
            end = 0
            while end < min(len(first), len(second)) - start and first[len(first) - 1 - end] == second[len(second) - 1 - end]:
                end += 1
            old, new = tuple(first[start:len(first) - end]), tuple(second[start:len(second) - end])
            self.told(first, second, [] if first == second else [(start, old, new)])

    def test_long_lists(self):
        first = [3] * 3000
        second = first[:1000] + [4] + first[1001:2000] + [5] + first[2001:]
        self.told(first, second, [(1000, tuple(first[1000:2001]), tuple(second[1000:2001]))])


class FineDifferenceTest(PatchesTest):

    def told(self, first, second, changes):
        kept = [list(first), list(second)]
        patch = fine_difference(first, second)
        self.assertIs(type(patch), Patch)
        self.assertEqual(patch.changes, tuple(changes))
        self.assertEqual(patch.apply(first), second)
        self.assertEqual([first, second], kept)

    def test_equal_lists(self):
        for values in ([], [1], [1, 2, 3], [0] * 1100):
            self.told(values, list(values), [])

    def test_runs(self):
        self.told([1, 2, 3, 4], [1, 9, 9, 4], [(1, (2, 3), (9, 9))])
        self.told([1, 2, 3, 4], [9, 2, 3, 9], [(0, (1,), (9,)), (3, (4,), (9,))])
        self.told([1, 2, 3, 4], [9, 8, 7, 6], [(0, (1, 2, 3, 4), (9, 8, 7, 6))])
        self.told([1, 2, 3, 4, 5], [9, 2, 9, 4, 9], [(0, (1,), (9,)), (2, (3,), (9,)), (4, (5,), (9,))])
        self.told([1, 2, 3, 4, 5, 6], [1, 9, 9, 4, 9, 6], [(1, (2, 3), (9, 9)), (4, (5,), (9,))])
        self.told([1, 2], [2, 1], [(0, (1, 2), (2, 1))])

    def test_different_lengths(self):
        for first, second in (([], [1]), ([1], []), ([1, 2], [1]), ([1, 2, 3], [1, 2, 3, 4]), ([1] * 2000, [2, 1] * 1001)):
            with self.assertRaises(DiscError) as caught:
                fine_difference(first, second)
            self.assertIs(type(caught.exception), DifferentLengths)

    def test_500_and_501_runs(self):
        first = [1] * 1001
        second = [2, 1] * 500 + [1]
        self.told(first, second, [(2 * at, (1,), (2,)) for at in range(500)])
        for last in ([2], [2, 2, 1]):
            with self.assertRaises(DiscError) as caught:
                fine_difference([1] * (1000 + len(last)), [2, 1] * 500 + last)
            self.assertIs(type(caught.exception), InvalidPatch)
        self.told([1] * 2000, [2] * 2000, [(0, (1,) * 2000, (2,) * 2000)])

    def test_any_lists(self):
        source = random.Random(52)
        for _ in range(200):
            length = source.randrange(12)
            first = [source.randrange(2) for _ in range(length)]
            second = [source.randrange(2) for _ in range(length)]
            changes = []
            at = 0
            while at < length:
                end = at
                while end < length and first[end] != second[end]:
                    end += 1
                if end > at:
                    changes.append((at, tuple(first[at:end]), tuple(second[at:end])))
                at = end + 1
            self.told(first, second, changes)


class BytesTest(PatchesTest):

    CHANGES = [(1, (2, 3), (9, 9, 9)), (300, (), (7,)), (301 + 128, (1,) * 130, ())]

    def bad(self, values):
        kept = list(values)
        with self.assertRaises(DiscError) as caught:
            read_patch(values)
        self.assertIs(type(caught.exception), BadBytes)
        self.assertEqual(values, kept)

    def good(self, changes):
        values = patch_bytes(Patch(changes))
        self.assertEqual(values, model_bytes(changes))
        self.assertIs(type(values), list)
        patch = read_patch(values)
        self.assertIs(type(patch), Patch)
        self.assertEqual(patch.changes, tuple(changes))

    def test_number_by_number(self):
        self.assertEqual(patch_bytes(Patch([(1, (2, 3), (9, 9))])), with_model_crc([80, 65, 1, 1, 2, 2, 2, 3, 9, 9]))
        self.assertEqual(patch_bytes(Patch([])), with_model_crc([80, 65, 0]))
        self.assertEqual(patch_bytes(Patch(self.CHANGES)), with_model_crc(
            [80, 65, 3] + [1, 2, 3, 2, 3, 9, 9, 9] + [128 + 41, 2, 0, 1, 7] + [128 + 1, 1, 128 + 2, 1, 0] + [1] * 130
        ))

    def test_written_and_read(self):
        self.good([])
        self.good(self.CHANGES)
        self.good([(0, (), (1,))])
        self.good([(0, (1,), ())])
        self.good([(127, (1,) * 127, (2,) * 128), (127 + 127 + 127, (0, 255), (255,) * 300)])
        self.good([(128, (1,) * 16384, (2,) * 16383)])
        self.good([(10 ** 20, (5,), (6,))])
        self.good([(2 * at, (1,), (at % 256,)) for at in range(500) if at != 1 and at != 257])
        self.good([(2 * at, (), (at % 256,)) for at in range(500)])

    def test_each_byte_changed(self):
        right = patch_bytes(Patch(self.CHANGES[:2]))
        for at in range(len(right)):
            for change in (1, 2, 64, 128):
                self.bad(right[:at] + [right[at] ^ change] + right[at + 1:])
        self.assertEqual(read_patch(right).changes, tuple(self.CHANGES[:2]))

    def test_cut_off(self):
        right = patch_bytes(Patch(self.CHANGES))
        for length in range(len(right)):
            self.bad(right[:length])
        for length in range(2, len(right) - 2):
            self.bad(with_model_crc(right[:length]))

    def test_bytes_behind(self):
        for changes in ([], self.CHANGES):
            right = patch_bytes(Patch(changes))
            for behind in ([0], [0, 0], [1, 2, 3], right):
                self.bad(right + behind)
                self.bad(with_model_crc(right[:-2] + behind))
            self.bad(with_model_crc(right))

    def test_the_first_bytes(self):
        right = patch_bytes(Patch(self.CHANGES))[:-2]
        for first in ([80, 66], [79, 65], [65, 80], [0, 0], [80], [], [80, 65, 65], [68, 87]):
            self.bad(with_model_crc(first + right[2:]))
        self.bad([])
        self.bad([80])
        self.bad([80, 65])
        self.bad(with_model_crc([]))
        self.bad(with_model_crc([80]))
        self.bad(with_model_crc([80, 65]))

    def test_numbers_with_a_needless_last_digit(self):
        numbers = [2, 5, 3, 1, 200, 1, 1]
        bodies = {3: [1, 2, 3, 9], 6: [7, 8]}
        def written(digits):
            values = [80, 65]
            for at, number in enumerate(digits):
                values += number + bodies.get(at, [])
            return with_model_crc(values)
        right = [model_number(number) for number in numbers]
        self.assertEqual(read_patch(written(right)).changes, ((5, (1, 2, 3), (9,)), (208, (7,), (8,))))
        for at in range(len(numbers)):
            needless = right[at][:-1] + [128 + right[at][-1], 0]
            self.bad(written(right[:at] + [needless] + right[at + 1:]))
            self.bad(written(right[:at] + [needless[:-1] + [128, 0]] + right[at + 1:]))
        self.bad(with_model_crc([80, 65, 128, 0]))

    def test_changes_that_break_point_50(self):
        for changes in (
            [(0, (), ())], [(5, (1,), (1,))], [(0, (1, 2), (1, 2))], [(0, (1,), (2,)), (1, (1,), (2,))],
            [(0, (), (2,)), (0, (), (3,))], [(3, (1, 2), ()), (5, (), (1,))], [(0, (1,), (2,)), (9, (), ())],
            [(0, (1,), (2,)), (9, (4,), (4,)), (20, (1,), (2,))],
        ):
            self.bad(model_bytes(changes))

    def test_501_changes(self):
        changes = [(2 * at, (1,), (2,)) for at in range(501)]
        self.assertEqual(len(read_patch(model_bytes(changes[:500])).changes), 500)
        self.bad(model_bytes(changes))
        self.bad(model_bytes(changes[:500] + [(2 * at, (1,), (2,)) for at in range(500, 700)]))

    def test_numbers_that_are_too_great(self):
        for numbers in ([2, 1, 1, 1], [0, 1, 1, 1], [10 ** 20], [10 ** 20, 1, 1, 1], [1, 0, 10 ** 20, 1], [1, 0, 1, 10 ** 20],
                        [1, 0, 3, 1], [1, 0, 1, 3], [1, 0, 2, 1], [1, 0, 1, 0], [1, 0, 0, 1]):
            values = [80, 65]
            for number in numbers:
                values += model_number(number)
            self.bad(with_model_crc(values + [4, 5]))
        self.assertEqual(read_patch(with_model_crc([80, 65, 1, 0, 1, 1, 4, 5])).changes, ((0, (4,), (5,)),))

    def test_values_that_are_no_bytes(self):
        right = patch_bytes(Patch(self.CHANGES[:1]))
        for at in range(len(right)):
            for value in (256, -1, right[at] + 256, right[at] - 256):
                self.bad(right[:at] + [value] + right[at + 1:])

    def test_values_that_are_no_bytes_with_the_crc_that_the_program_gives(self):
        for number in (1, -127):
            part = [80, 65, 1, number, 1, 1, 5, 6]
            if number == 1:
                self.assertEqual(read_patch(part + two_bytes(crc(part))).changes, ((1, (5,), (6,)),))
            else:
                self.bad(part + two_bytes(crc(part)))

    def test_any_bytes(self):
        source = random.Random(53)
        for _ in range(2000):
            part = [80, 65] + [source.choice((0, 1, 2, 3, 128, 129, 255)) for _ in range(source.randrange(10))]
            values = with_model_crc(part)
            try:
                patch = read_patch(values)
            except BadBytes:
                continue
            self.assertEqual(patch_bytes(patch), values)

    def test_the_bytes_stay(self):
        patch = Patch(self.CHANGES)
        patch_bytes(patch).append(5)
        self.assertEqual(patch_bytes(patch), model_bytes(self.CHANGES))


if __name__ == "__main__":
    unittest.main()
