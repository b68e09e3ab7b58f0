"""Points 42 to 45: discwright/repairs.py."""

import random
import unittest

from discwright.blockdiscs import BlockDisc
from discwright.errors import DiscError, InvalidCase, NotTaken
from discwright.repairs import Case, found_repairs, is_taken, repair_for, repaired
from tests.models import model_crc

SIZE = 16


def block(value):
    return None if value is None else [value] * SIZE


def disc_with(*blocks):
    """A disc of blocks; a number stands for a block of such bytes."""
    return BlockDisc([list(values) if isinstance(values, list) else block(values) for values in blocks])


def blocks_of(disc):
    return [disc.block(index) for index in range(len(disc))]


def with_bits(values, *places):
    """Bytes of which the bits at the places are changed."""
    values = list(values)
    for place in places:
        values[place // 8] ^= 2 ** (7 - place % 8)
    return values


def known(*values):
    """The CRCs of blocks of such bytes, by their indexes."""
    return {index: model_crc(block(value)) for index, value in enumerate(values) if value is not None}


class RepairsTest(unittest.TestCase):

    def taken(self, case, index, values, certificate):
        self.assertIs(is_taken(case, index, values, certificate), True, certificate)

    def not_taken(self, case, index, values, certificate):
        self.assertIs(is_taken(case, index, values, certificate), False, certificate)


class CaseTest(RepairsTest):

    def refused(self, *args):
        with self.assertRaises(DiscError) as caught:
            Case(*args)
        self.assertIs(type(caught.exception), InvalidCase)

    def test_fields(self):
        disc, dump = disc_with(1, None, 3), disc_with(1, 2, None)
        case = Case(disc, [dump, disc], [(0, 1, 2), (0, 2)], {1: 5, 2: 65535})
        self.assertTrue(case.disc == disc)
        self.assertEqual([type(case.dumps), type(case.plan), type(case.crcs)], [tuple, tuple, dict])
        self.assertTrue(case.dumps == (dump, disc))
        self.assertEqual([case.plan, case.crcs], [((0, 1, 2), (0, 2)), {1: 5, 2: 65535}])
        case = Case(disc, [], [], {})
        self.assertEqual([case.dumps, case.plan, case.crcs], [(), (), {}])

    def test_the_fields_are_copies(self):
        disc, dumps, plan, crcs = disc_with(1, None, 3), [disc_with(1, 2, None)], [(0, 1)], {1: 5}
        case = Case(disc, dumps, plan, crcs)
        dumps.append(disc)
        plan.append((1, 2))
        crcs[2] = 7
        crcs[1] = 6
        self.assertEqual([len(case.dumps), case.plan, case.crcs], [1, ((0, 1),), {1: 5}])

    def test_the_arguments_stay(self):
        dumps, plan, crcs = [disc_with(1, 2, None)], [(0, 1)], {1: 5}
        case = Case(disc_with(1, None, 3), dumps, plan, crcs)
        case.crcs[2] = 9
        self.assertEqual([len(dumps), plan, crcs], [1, [(0, 1)], {1: 5}])

    def test_dumps_of_other_numbers_of_blocks(self):
        disc = disc_with(1, 2, 3)
        for dump in (disc_with(1, 2), disc_with(1, 2, 3, 4), disc_with(1)):
            self.refused(disc, [dump], [], {})
            self.refused(disc, [disc, dump], [], {})
            self.refused(disc, [dump, disc], [], {})

    def test_dumps_of_other_sizes(self):
        disc = disc_with(1, 2, 3)
        for size in (32, 64, 512):
            self.refused(disc, [BlockDisc([[1] * size] * 3)], [], {})
            self.refused(disc, [disc, BlockDisc([None, None, [1] * size])], [], {})
            self.refused(BlockDisc([[1] * size] * 3), [disc], [], {})

    def test_plans(self):
        disc = disc_with(1, 2, 3)
        for group in ((), (0,), (1, 0), (0, 0), (0, 3), (-1, 0), (0, 1, 1), (2, 3), (0, 1, 2, 3)):
            self.refused(disc, [], [group], {})
            self.refused(disc, [], [(0, 1, 2), group], {})
        self.assertEqual(Case(disc, [], [(0, 1, 2), (0, 2), (0, 2)], {}).plan, ((0, 1, 2), (0, 2), (0, 2)))

    def test_indexes_of_crcs(self):
        disc = disc_with(1, 2, 3)
        for index in (-1, 3, 100, -3, 10 ** 20):
            self.refused(disc, [], [], {index: 5})
            self.refused(disc, [], [], {0: 5, index: 5})
        self.assertEqual(Case(disc, [], [], {0: 5, 2: 5}).crcs, {0: 5, 2: 5})

    def test_crcs(self):
        disc = disc_with(1, 2, 3)
        for number in (-1, 65536, 10 ** 20):
            self.refused(disc, [], [], {1: number})
            self.refused(disc, [], [], {0: 5, 1: number})
        self.assertEqual(Case(disc, [], [], {0: 0, 1: 65535}).crcs, {0: 0, 1: 65535})

    def test_wrong_blocks(self):
        self.assertEqual(Case(disc_with(1, 2, 3), [], [], {}).wrong_blocks(), [])
        self.assertEqual(Case(disc_with(1, 2, 3), [], [], known(1, 2, 3)).wrong_blocks(), [])
        self.assertEqual(Case(disc_with(1, 2, 3), [], [], known(1, 9, 3)).wrong_blocks(), [1])
        self.assertEqual(Case(disc_with(None, 2, None, 4), [], [], {}).wrong_blocks(), [0, 2])
        self.assertEqual(Case(disc_with(None, 2, None, 4), [], [], known(7, 7, 7, 7)).wrong_blocks(), [0, 1, 2, 3])
        self.assertEqual(Case(disc_with(1, 2, 3, None), [], [], known(None, None, 4)).wrong_blocks(), [2, 3])

    def test_a_group_that_does_not_hold_makes_no_block_wrong(self):
        self.assertEqual(Case(disc_with(1, 2, 9), [disc_with(3, 3, 3)], [(0, 1, 2)], {}).wrong_blocks(), [])


class DumpTest(RepairsTest):

    DUMPS = [disc_with(1, None, 3), disc_with(1, 2, None), disc_with(8, 2, 3)]

    def test_taken(self):
        case = Case(disc_with(1, None, None), self.DUMPS, [], known(1, 2, 3))
        for index, number in ((1, 1), (1, 2), (2, 0), (2, 2)):
            self.taken(case, index, block(index + 1), ("dump", number))

    def test_a_block_that_is_there_and_wrong(self):
        case = Case(disc_with(1, 9, 3), self.DUMPS, [], known(1, 2, 3))
        self.taken(case, 1, block(2), ("dump", 1))

    def test_a_block_that_is_not_wrong(self):
        case = Case(disc_with(1, 2, 3), self.DUMPS, [], known(1, 2, 3))
        for index, number in ((0, 0), (1, 1), (2, 0)):
            self.not_taken(case, index, block(index + 1), ("dump", number))
        case = Case(disc_with(9, 9, 9), self.DUMPS, [], {})
        self.not_taken(case, 1, block(2), ("dump", 1))

    def test_a_dump_without_the_block_or_with_other_bytes(self):
        case = Case(disc_with(None, None, 3), self.DUMPS, [], known(1, 2, 3))
        self.not_taken(case, 1, block(2), ("dump", 0))
        self.not_taken(case, 0, block(1), ("dump", 2))
        self.taken(case, 0, block(1), ("dump", 1))

    def test_indexes_of_dumps(self):
        case = Case(disc_with(None, None, None, 4), [disc_with(1, 2, 3, 4)] * 2, [], known(1, 2, 3))
        for number in (0, 1):
            self.taken(case, 1, block(2), ("dump", number))
        for number in (2, 3, -1, -2, -3, 10 ** 20):
            self.not_taken(case, 1, block(2), ("dump", number))
        self.not_taken(Case(disc_with(None, 1), [], [], known(1)), 0, block(1), ("dump", 0))

    def test_a_crc_that_is_not_known(self):
        case = Case(disc_with(1, None, None), self.DUMPS, [], known(1, None, 3))
        self.not_taken(case, 1, block(2), ("dump", 1))
        self.taken(case, 2, block(3), ("dump", 0))

    def test_a_crc_that_does_not_fit(self):
        case = Case(disc_with(None, None, None, 4), [disc_with(8, 2, 3, 4)], [], known(1, 5, 6))
        for index, value in ((0, 8), (1, 2), (2, 3)):
            self.not_taken(case, index, block(value), ("dump", 0))

    def test_another_number_of_bytes(self):
        case = Case(disc_with(None, 1), [disc_with([0] * SIZE, 1)], [], {0: model_crc([0] * SIZE)})
        for values in ([], [0], [0] * 15, [0] * 17, [0] * 32):
            self.not_taken(case, 0, values, ("dump", 0))
        self.taken(case, 0, [0] * SIZE, ("dump", 0))
        for values in ([0] * 15, [0] * 17, [0] * 32):
            case = Case(disc_with(None, 1), [disc_with([0] * SIZE, 1)], [], {0: model_crc(values)})
            self.not_taken(case, 0, values, ("dump", 0))


class DumpsTest(RepairsTest):

    DUMPS = [disc_with(1, None, 3), disc_with(1, 2, None), disc_with(8, 2, 3), disc_with(8, 2, 3)]

    def test_a_crc_that_is_not_known(self):
        case = Case(disc_with(None, None, None, 5), [disc_with(*firsts, 5) for firsts in
                                                     ((1, None, 3), (1, 2, None), (8, 2, 3))], [], {})
        self.taken(case, 0, block(1), ("dumps", 0, 1))
        self.taken(case, 1, block(2), ("dumps", 1, 2))
        self.taken(case, 2, block(3), ("dumps", 0, 2))
        for certificate in (("dumps", 0, 2), ("dumps", 1, 2)):
            self.not_taken(case, 0, block(1), certificate)
            self.not_taken(case, 0, block(8), certificate)
        self.not_taken(case, 1, block(2), ("dumps", 0, 1))
        self.not_taken(case, 2, block(3), ("dumps", 0, 1))

    def test_a_crc_that_is_known(self):
        dumps = [disc_with(1, 2), disc_with(1, 2), disc_with(8, 2), disc_with(8, 2)]
        case = Case(disc_with(None, 2), dumps, [], known(1))
        self.taken(case, 0, block(1), ("dumps", 0, 1))
        self.not_taken(case, 0, block(8), ("dumps", 2, 3))
        case = Case(disc_with(None, 2), dumps, [], known(8))
        self.not_taken(case, 0, block(1), ("dumps", 0, 1))
        self.taken(case, 0, block(8), ("dumps", 2, 3))
        case = Case(disc_with(None, 2), dumps, [], known(5))
        self.not_taken(case, 0, block(1), ("dumps", 0, 1))
        self.not_taken(case, 0, block(8), ("dumps", 2, 3))
        self.taken(Case(disc_with(9, 2), dumps, [], known(1)), 0, block(1), ("dumps", 0, 1))

    def test_the_same_dump_twice(self):
        case = Case(disc_with(None, 2), [disc_with(1, 2), disc_with(1, 2)], [], {})
        for number in (0, 1):
            self.not_taken(case, 0, block(1), ("dumps", number, number))
        self.not_taken(Case(disc_with(None, 2), [disc_with(1, 2)], [], known(1)), 0, block(1), ("dumps", 0, 0))

    def test_indexes_of_dumps(self):
        case = Case(disc_with(None, 2), [disc_with(1, 2)] * 3, [], {})
        for first, second in ((0, 1), (0, 2), (1, 2)):
            self.taken(case, 0, block(1), ("dumps", first, second))
        for first, second in ((0, 3), (3, 0), (2, 3), (-1, 0), (0, -1), (-1, 1), (-2, -1), (3, 4), (-3, 0), (1, 10 ** 20)):
            self.not_taken(case, 0, block(1), ("dumps", first, second))

    def test_a_block_that_is_not_wrong(self):
        dumps = [disc_with(1, 2), disc_with(1, 2)]
        self.not_taken(Case(disc_with(9, 2), dumps, [], {}), 0, block(1), ("dumps", 0, 1))
        self.not_taken(Case(disc_with(1, 2), dumps, [], known(1)), 0, block(1), ("dumps", 0, 1))

    def test_other_bytes(self):
        case = Case(disc_with(None, 2), [disc_with(1, 2), disc_with(1, 2)], [], {})
        for values in (block(3), [1] * 15, [1] * 17, [], [1] * 15 + [0]):
            self.not_taken(case, 0, values, ("dumps", 0, 1))


class ParityTest(RepairsTest):

    def test_each_block_of_a_group(self):
        for at, value in enumerate((1, 2, 4, 7)):
            blocks = [1, 2, 4, 7]
            blocks[at] = None
            case = Case(disc_with(*blocks, 9), [], [(0, 4), (0, 1, 2, 3)], {})
            self.taken(case, at, block(value), ("parity", 1))
            self.not_taken(case, at, block(value ^ 1), ("parity", 1))
            for places in ((0,), (127,), (64,)):
                self.not_taken(case, at, with_bits(block(value), *places), ("parity", 1))
            self.not_taken(case, at, block(value), ("parity", 0))

    def test_indexes_of_groups(self):
        case = Case(disc_with(None, 1, 2, 3), [], [(0, 1), (0, 2), (2, 3)], {})
        self.taken(case, 0, block(1), ("parity", 0))
        self.taken(case, 0, block(2), ("parity", 1))
        for number in (2, 3, -1, -2, -3, 10 ** 20):
            for value in (1, 2, 3):
                self.not_taken(case, 0, block(value), ("parity", number))
        case = Case(disc_with(1, 2, None), [], [(0, 2)], {})
        for number in (-1, 1):
            self.not_taken(case, 2, block(1), ("parity", number))

    def test_a_group_without_the_block(self):
        case = Case(disc_with(1, 2, None, 3), [], [(0, 1, 3)], {})
        for value in (0, 1, 2, 3):
            self.not_taken(case, 2, block(value), ("parity", 0))

    def test_another_missing_block(self):
        case = Case(disc_with(None, None, 3), [], [(0, 1, 2)], {})
        for value in (0, 1, 2, 3):
            self.not_taken(case, 0, block(value), ("parity", 0))
            self.not_taken(case, 1, block(value), ("parity", 0))

    def test_another_wrong_block(self):
        case = Case(disc_with(None, 9, 3), [], [(0, 1, 2)], known(None, 2))
        for value in (1, 9 ^ 3):
            self.not_taken(case, 0, block(value), ("parity", 0))
        case = Case(disc_with(None, 2, 9), [], [(0, 1, 2)], known(None, None, 3))
        self.not_taken(case, 0, block(2 ^ 9), ("parity", 0))
        case = Case(disc_with(None, 2, 3), [], [(0, 1, 2)], known(None, 2, 3))
        self.taken(case, 0, block(1), ("parity", 0))

    def test_a_block_that_is_there_and_wrong(self):
        case = Case(disc_with(9, 2, 3), [], [(0, 1, 2)], known(1))
        self.taken(case, 0, block(1), ("parity", 0))
        self.not_taken(case, 0, block(9), ("parity", 0))

    def test_a_block_that_is_not_wrong(self):
        self.not_taken(Case(disc_with(9, 2, 3), [], [(0, 1, 2)], {}), 0, block(1), ("parity", 0))
        self.not_taken(Case(disc_with(1, 2, 3), [], [(0, 1, 2)], known(1)), 0, block(1), ("parity", 0))

    def test_a_crc_that_does_not_fit(self):
        case = Case(disc_with(None, 2, 3), [], [(0, 1, 2)], known(5))
        self.not_taken(case, 0, block(1), ("parity", 0))
        self.not_taken(case, 0, block(5), ("parity", 0))

    def test_another_number_of_bytes(self):
        case = Case(disc_with(None, 2, 3), [], [(0, 1, 2)], {})
        for values in ([], [1] * 15, [1] * 17, [1] * 32):
            self.not_taken(case, 0, values, ("parity", 0))


class CrcTest(RepairsTest):

    TRUE = [10 * at % 256 for at in range(SIZE)]

    def case_with(self, *places, crcs=None):
        crcs = {0: model_crc(self.TRUE)} if crcs is None else crcs
        return Case(disc_with(with_bits(self.TRUE, *places), 1), [disc_with(self.TRUE, 1)], [(0, 1)], crcs)

    def test_one_two_and_three_places(self):
        for places in ((0,), (127,), (7, 8), (0, 127), (60, 61), (0, 1, 2), (5, 50, 120), (125, 126, 127)):
            self.taken(self.case_with(*places), 0, self.TRUE, ("crc", places))

    def test_other_places(self):
        for places, others in (
            ((5,), ((6,), (4,), (5, 6), (4, 5), (), (5, 5), (133,), (-1, 5), (5, 128))),
            ((5, 9), ((5,), (9,), (9, 5), (5, 8), (5, 9, 10), (5, 9, 9), (-3, 5, 9))),
            ((5, 9, 77), ((5, 9), (9, 77), (77, 9, 5), (5, 77, 9), (9, 5, 77), (5, 9, 78), (5, 9, 77, 78))),
        ):
            case = self.case_with(*places)
            self.taken(case, 0, self.TRUE, ("crc", places))
            for other in others:
                self.not_taken(case, 0, self.TRUE, ("crc", other))

    def test_no_place_and_four(self):
        self.not_taken(self.case_with(), 0, self.TRUE, ("crc", ()))
        four = (3, 30, 60, 90)
        self.not_taken(self.case_with(*four), 0, self.TRUE, ("crc", four))
        self.not_taken(self.case_with(*range(20)), 0, self.TRUE, ("crc", tuple(range(20))))

    def test_places_that_do_not_ascend(self):
        case = self.case_with(5, 9)
        for places in ((9, 5), (5, 5, 9), (5, 9, 9), (9, 9)):
            self.not_taken(case, 0, self.TRUE, ("crc", places))

    def test_places_out_of_range(self):
        case = self.case_with(0)
        for place in (128, 129, -128, -1, 10 ** 20, -(10 ** 20)):
            self.not_taken(case, 0, self.TRUE, ("crc", (place,)))
        self.not_taken(self.case_with(127), 0, self.TRUE, ("crc", (-1,)))

    def test_bytes_that_do_not_fit(self):
        case = self.case_with(5)
        for places in ((6,), (5, 6), (1, 2, 3)):
            damaged = with_bits(self.TRUE, 5)
            self.not_taken(case, 0, with_bits(damaged, *places), ("crc", places))

    def test_a_crc_that_is_not_known(self):
        case = self.case_with(5, crcs={})
        self.not_taken(case, 0, self.TRUE, ("crc", (5,)))
        self.not_taken(self.case_with(5, crcs=known(None, 7)), 0, self.TRUE, ("crc", (5,)))

    def test_a_missing_block(self):
        case = Case(disc_with(None, 1), [], [], {0: model_crc(self.TRUE)})
        for places in ((), (0,), (1, 2)):
            self.not_taken(case, 0, self.TRUE, ("crc", places))
            self.not_taken(case, 0, with_bits([0] * SIZE, *places), ("crc", places))

    def test_a_block_that_is_not_wrong(self):
        case = Case(disc_with(self.TRUE, 1), [], [], {0: model_crc(self.TRUE)})
        self.not_taken(case, 0, self.TRUE, ("crc", ()))
        self.not_taken(case, 0, with_bits(self.TRUE, 3), ("crc", (3,)))

    def test_another_number_of_bytes(self):
        case = self.case_with(127)
        for values in (self.TRUE + [0], self.TRUE[:15], [], self.TRUE * 2):
            self.not_taken(case, 0, values, ("crc", (127,)))
            self.not_taken(self.case_with(127, crcs={0: model_crc(values)}), 0, values, ("crc", (127,)))


class SeekingTest(RepairsTest):

    def found(self, case, index, values, certificate):
        told = repair_for(case, index)
        self.assertEqual(told, (values, certificate))
        self.assertEqual([type(told), type(told[0]), type(told[1])], [tuple, list, tuple])
        self.taken(case, index, values, certificate)

    def none(self, case, index):
        self.assertIs(repair_for(case, index), None)

    def test_blocks_that_are_not_wrong(self):
        case = Case(disc_with(1, 2, 3), [disc_with(1, 2, 3)] * 2, [(0, 1, 2)], known(1, 2))
        for index in range(3):
            self.none(case, index)

    def test_dump(self):
        dumps = [disc_with(9, 2), disc_with(None, 2), disc_with(1, 2), disc_with(1, 2)]
        self.found(Case(disc_with(None, 2), dumps, [], known(1)), 0, block(1), ("dump", 2))
        self.found(Case(disc_with(5, 2), dumps, [], known(9)), 0, block(9), ("dump", 0))
        self.found(Case(disc_with(5, 2), dumps[3:], [], known(1)), 0, block(1), ("dump", 0))

    def test_dumps(self):
        first = [disc_with(9, 2), disc_with(None, 2), disc_with(1, 2), disc_with(8, 2), disc_with(1, 2), disc_with(1, 2)]
        self.found(Case(disc_with(None, 2), first, [], {}), 0, block(1), ("dumps", 2, 4))
        later = first[:2] + [disc_with(8, 2)] + first[2:] + [disc_with(9, 2)]
        self.found(Case(disc_with(None, 2), later, [], {}), 0, block(9), ("dumps", 0, 7))
        self.found(Case(disc_with(None, 2), later[1:], [], {}), 0, block(8), ("dumps", 1, 3))

    def test_dumps_that_do_not_agree(self):
        dumps = [disc_with(9, 2), disc_with(None, 2), disc_with(1, 2), disc_with(8, 2), disc_with(None, 2)]
        self.none(Case(disc_with(None, 2), dumps, [], {}), 0)
        self.none(Case(disc_with(None, 2), [disc_with(1, 2)], [], {}), 0)
        self.none(Case(disc_with(None, 2), [], [], {}), 0)

    def test_dumps_that_do_not_fit(self):
        dumps = [disc_with(9, 2), disc_with(9, 2)]
        self.none(Case(disc_with(None, 2), dumps, [], known(1)), 0)

    def test_parity(self):
        plan = [(1, 2), (0, 3), (0, 1, 2), (0, 2, 4)]
        case = Case(disc_with(None, 1, 2, None, 7), [], plan, {})
        self.found(case, 0, block(3), ("parity", 2))
        self.none(case, 3)
        self.found(Case(disc_with(None, 1, 2, 9, 7), [], plan, {}), 0, block(9), ("parity", 1))
        self.found(Case(disc_with(None, 1, 2, 9, 7), [], plan, known(5)), 0, block(5), ("parity", 3))
        self.none(Case(disc_with(None, 1, 2, 9, 7), [], plan, known(77)), 0)

    def test_parity_of_wrong_blocks(self):
        case = Case(disc_with(None, 1, 2, 9), [], [(0, 1, 2), (0, 3)], known(None, 5))
        self.found(case, 0, block(9), ("parity", 1))
        self.none(Case(disc_with(None, 1, 2, 9), [], [(0, 1, 2), (0, 3)], known(None, 5, 2, 8)), 0)

    def test_crc(self):
        true = CrcTest.TRUE
        for place in (0, 1, 7, 8, 63, 126, 127):
            case = Case(disc_with(1, with_bits(true, place)), [], [], {1: model_crc(true)})
            self.found(case, 1, true, ("crc", (place,)))

    def test_crc_in_large_blocks(self):
        source = random.Random(45)
        for size in (32, 512):
            true = [source.randrange(256) for _ in range(size)]
            for place in (0, 8 * size - 1, source.randrange(8 * size)):
                case = Case(BlockDisc([with_bits(true, place)]), [], [], {0: model_crc(true)})
                self.found(case, 0, true, ("crc", (place,)))

    def test_crc_is_sought_with_one_place_alone(self):
        true = CrcTest.TRUE
        for places in ((3, 4), (0, 127), (3, 4, 5)):
            damaged = with_bits(true, *places)
            case = Case(disc_with(damaged, 1), [], [], {0: model_crc(true)})
            single = [place for place in range(128) if model_crc(with_bits(damaged, place)) == model_crc(true)]
            self.assertEqual(single, [])
            self.none(case, 0)

    def test_crc_of_a_missing_block(self):
        self.none(Case(disc_with(None, 1), [], [], {0: model_crc([0] * 15 + [1])}), 0)

    def test_the_order_of_the_kinds(self):
        true = [4] * SIZE
        near = with_bits(true, 50)
        dumps, plan, crcs = [disc_with(true, 4, 2), disc_with(true, 4, 2)], [(0, 1)], known(4)
        self.found(Case(disc_with(near, 4, 2), dumps, plan, crcs), 0, true, ("dump", 0))
        self.found(Case(disc_with(near, 4, 2), [], plan, crcs), 0, true, ("parity", 0))
        self.found(Case(disc_with(near, 5, 2), [], plan, crcs), 0, true, ("crc", (50,)))
        self.found(Case(disc_with(near, 4, 2), [], [], crcs), 0, true, ("crc", (50,)))
        self.found(Case(disc_with(None, 4, 2), dumps, plan, {}), 0, true, ("dumps", 0, 1))
        self.found(Case(disc_with(None, 4, 2), dumps[:1], plan, {}), 0, true, ("parity", 0))
        self.none(Case(disc_with(None, None, 2), dumps[:1], plan, {}), 0)

    def test_two_dumps_before_parity_even_if_they_differ(self):
        dumps = [disc_with(8, 4), disc_with(8, 4)]
        self.found(Case(disc_with(None, 4), dumps, [(0, 1)], {}), 0, block(8), ("dumps", 0, 1))
        self.found(Case(disc_with(None, 4), dumps, [(0, 1)], known(4)), 0, block(4), ("parity", 0))

    def test_the_case_stays(self):
        case = Case(disc_with(None, 4), [disc_with(4, 4)], [(0, 1)], known(4))
        repair_for(case, 0)[0].append(5)
        self.assertEqual(repair_for(case, 0), (block(4), ("dump", 0)))
        self.assertEqual(case.wrong_blocks(), [0])


class LedgerTest(RepairsTest):

    def refused(self, case, ledger, index):
        with self.assertRaises(DiscError) as caught:
            repaired(case, ledger)
        self.assertIs(type(caught.exception), NotTaken)
        self.assertEqual(caught.exception.index, index)

    def test_one_repair(self):
        case = Case(disc_with(1, None, 3), [disc_with(1, 2, 3)], [(0, 1, 2)], known(1, 2))
        after = repaired(case, [(1, block(2), ("dump", 0))])
        self.assertIs(type(after), Case)
        self.assertTrue(after.disc == disc_with(1, 2, 3))
        self.assertTrue(after.dumps == case.dumps)
        self.assertEqual([after.plan, after.crcs, after.wrong_blocks()], [case.plan, case.crcs, []])

    def test_no_repair(self):
        case = Case(disc_with(1, None, 3), [], [], {})
        self.assertTrue(repaired(case, []).disc == case.disc)

    def test_one_repair_makes_another_one_possible(self):
        true = [2] * SIZE
        case = Case(disc_with(1, with_bits(true, 9), None, None), [], [(0, 1, 2), (2, 3)], known(None, 2))
        ledger = [(1, true, ("crc", (9,))), (2, block(3), ("parity", 0)), (3, block(3), ("parity", 1))]
        after = repaired(case, ledger)
        self.assertTrue(after.disc == disc_with(1, 2, 3, 3))
        self.assertEqual(found_repairs(case), ledger)
        self.refused(case, [ledger[1]] + ledger, 0)
        self.refused(case, [ledger[0], ledger[2], ledger[1]], 1)
        self.refused(case, ledger[2:], 0)

    def test_a_repair_that_is_not_taken(self):
        case = Case(disc_with(None, None, 3), [disc_with(1, 2, 3), disc_with(1, 9, 3)], [], known(1))
        right = (0, block(1), ("dump", 0))
        self.refused(case, [right, (1, block(2), ("dump", 0))], 1)
        self.refused(case, [right, right], 1)
        self.refused(case, [(0, block(1), ("dump", 2)), right], 0)
        self.refused(case, [(0, [1] * 15, ("dump", 0)), right], 0)
        self.refused(case, [right, (1, block(2), ("dumps", 0, 1)), (5, block(1), ("dump", 0))][:2], 1)
        self.refused(case, [right, (2, block(3), ("dumps", 0, 1))], 1)

    def test_a_block_that_was_repaired_is_not_wrong(self):
        case = Case(disc_with(None, 2), [disc_with(1, 2)] * 2, [], {})
        repair = (0, block(1), ("dumps", 0, 1))
        self.assertEqual(repaired(case, [repair]).wrong_blocks(), [])
        self.refused(case, [repair, repair], 1)

    def test_a_block_that_gets_in_the_way_no_more(self):
        """A wrong block of a group hinders its parity until it is repaired."""
        case = Case(disc_with(None, 9, 3), [disc_with(None, 2, 3)], [(0, 1, 2)], known(None, 2))
        first, second = (1, block(2), ("dump", 0)), (0, block(1), ("parity", 0))
        self.assertTrue(repaired(case, [first, second]).disc == disc_with(1, 2, 3))
        self.refused(case, [second, first], 0)

    def test_the_case_and_the_ledger_stay(self):
        case = Case(disc_with(None, 2), [disc_with(1, 2)], [], known(1))
        ledger = [(0, block(1), ("dump", 0))]
        after = repaired(case, ledger)
        after.crcs[1] = 5
        ledger[0][1][0] = 77
        self.assertEqual([case.wrong_blocks(), case.crcs], [[0], known(1)])
        self.assertEqual(blocks_of(case.disc), [None, block(2)])
        self.assertEqual(after.disc.block(0), block(1))


class FoundTest(RepairsTest):

    def test_none(self):
        self.assertEqual(found_repairs(Case(disc_with(1, 2), [], [], {})), [])
        self.assertEqual(found_repairs(Case(disc_with(1, None), [disc_with(1, 2)], [], {})), [])
        self.assertEqual(found_repairs(Case(disc_with(1, None, None), [], [(0, 1, 2)], {})), [])

    def test_wrong_blocks_in_ascending_order(self):
        case = Case(disc_with(None, None, None, 4), [disc_with(1, 2, 3, 4)], [], known(1, 2, 3))
        ledger = found_repairs(case)
        self.assertEqual(ledger, [(index, block(index + 1), ("dump", 0)) for index in range(3)])
        self.assertEqual([type(ledger), type(ledger[0]), type(ledger[0][1]), type(ledger[0][2])],
                         [list, tuple, list, tuple])

    def test_again_and_again(self):
        """Each group needs the block behind it, so the blocks are gone through several times."""
        case = Case(disc_with(None, None, None, None, 5), [], [(0, 1), (1, 2), (2, 3), (3, 4)], {})
        self.assertEqual(found_repairs(case), [
            (3, block(5), ("parity", 3)), (2, block(5), ("parity", 2)), (1, block(5), ("parity", 1)),
            (0, block(5), ("parity", 0)),
        ])

    def test_a_repair_counts_at_once(self):
        case = Case(disc_with(5, None, None, None), [], [(2, 3), (1, 2), (0, 1)], {})
        self.assertEqual(found_repairs(case), [
            (1, block(5), ("parity", 2)), (2, block(5), ("parity", 1)), (3, block(5), ("parity", 0)),
        ])

    def test_until_none_of_the_wrong_blocks_gets_a_repair(self):
        case = Case(disc_with(None, None, None, 4, None, None), [disc_with(None, None, 3, None, None, None)],
                    [(0, 2, 3), (4, 5)], known(None, None, 3))
        ledger = found_repairs(case)
        self.assertEqual(ledger, [(2, block(3), ("dump", 0)), (0, block(7), ("parity", 0))])
        after = repaired(case, ledger)
        self.assertEqual(after.wrong_blocks(), [1, 4, 5])
        self.assertEqual([repair_for(after, index) for index in (1, 4, 5)], [None] * 3)
        self.assertEqual(found_repairs(after), [])

    def any_case(self, source):
        """A true disc, and a case as point 44 says."""
        count = source.randrange(4, 9)
        true = [[source.randrange(256) for _ in range(SIZE)] for _ in range(count)]
        plan = []
        for last in source.sample(range(2, count), source.randrange(min(3, count - 2) + 1)):
            group = tuple(sorted(source.sample(range(last), source.randrange(1, min(last, 3) + 1)))) + (last,)
            plan.append((last, group))
        for last, group in sorted(plan):
            true[last] = [0] * SIZE
            for index in group[:-1]:
                true[last] = [one ^ other for one, other in zip(true[last], true[index])]
        crcs = {index: model_crc(true[index]) for index in range(count) if source.randrange(3)}
        dumps = [BlockDisc(self.damaged(true, crcs, source)) for _ in range(source.randrange(4))]
        disc = BlockDisc(self.damaged(true, crcs, source))
        return true, Case(disc, dumps, [group for _, group in plan], crcs)

    def damaged(self, true, crcs, source):
        blocks = []
        for index, values in enumerate(true):
            kind = source.randrange(4)
            if kind == 1 and index in crcs:
                # At places that no other dump is likely to have, so that no two have the same wrong bytes.
                values = with_bits(values, *source.sample(range(8 * SIZE), source.randrange(1, 4)))
            blocks.append(None if kind == 2 else values)
        if not any(blocks):
            blocks[0] = true[0]
        return blocks

    def test_the_promise(self):
        source = random.Random(44)
        words = {}
        for _ in range(400):
            true, case = self.any_case(source)
            ledger = found_repairs(case)
            seen = case
            for index, values, certificate in ledger:
                words[certificate[0]] = True
                self.taken(seen, index, values, certificate)
                before = case.disc.block(index)
                different = None if before is None else sum(
                    bin(one ^ other).count("1") for one, other in zip(before, true[index]))
                if certificate[0] != "crc" or different + 1 <= 3:
                    self.assertEqual(values, true[index])
                seen = repaired(seen, [(index, values, certificate)])
                if values != true[index]:
                    break
            else:
                after = repaired(case, ledger)
                self.assertTrue(after.disc == seen.disc)
                for index in after.wrong_blocks():
                    self.assertIs(repair_for(after, index), None)
        self.assertEqual(sorted(words), ["crc", "dump", "dumps", "parity"])

    def test_certificates_with_wrong_bytes_are_not_taken(self):
        """Under the promise's conditions, nothing but the true bytes is taken for a block."""
        source = random.Random(46)
        for _ in range(100):
            true, case = self.any_case(source)
            for index in case.wrong_blocks():
                values = with_bits(true[index], *source.sample(range(8 * SIZE), source.randrange(1, 4)))
                certificates = [("dump", number) for number in range(len(case.dumps))]
                certificates += [("dumps", one, other) for one in range(3) for other in range(3)]
                certificates += [("parity", number) for number in range(len(case.plan))]
                for certificate in certificates:
                    self.not_taken(case, index, values, certificate)

    def test_the_case_stays(self):
        case = Case(disc_with(None, None, 4), [disc_with(1, 2, 4)], [(0, 2)], known(1, 2))
        found_repairs(case).append(5)
        self.assertEqual([case.wrong_blocks(), len(found_repairs(case))], [[0, 1], 2])


if __name__ == "__main__":
    unittest.main()
