"""Point 40: discwright/paritywork.py."""

import random
import unittest

from discwright.blockdiscs import BlockDisc
from discwright.errors import DiscError, InvalidPlan
from discwright.paritywork import broken_groups, holds, mended_by_parity, with_parity

SIZE = 16


def disc_with(*blocks):
    """A disc of blocks of equal bytes, or None."""
    return BlockDisc([None if value is None else [value] * SIZE for value in blocks])


def blocks_of(disc):
    return [disc.block(index) for index in range(len(disc))]


def firsts(disc):
    """The first byte of each block, or None."""
    return [None if block is None else block[0] for block in blocks_of(disc)]


def model_mended(blocks, plan):
    """Point 40, group by group."""
    blocks, made = list(blocks), []
    while True:
        for group in plan:
            lost = [index for index in group if blocks[index] is None]
            if len(lost) == 1:
                values = [0] * SIZE
                for index in group:
                    if index != lost[0]:
                        values = [one ^ other for one, other in zip(values, blocks[index])]
                blocks[lost[0]] = values
                made.append(lost[0])
                break
        else:
            return blocks, made


class ParityTest(unittest.TestCase):

    def refused(self, call, *args):
        with self.assertRaises(DiscError) as caught:
            call(*args)
        self.assertIs(type(caught.exception), InvalidPlan)


class PlanTest(ParityTest):

    DISC = disc_with(1, 2, 3, None, 0)

    def test_groups_that_are_none(self):
        for group in ((), (0,), (4,), (1, 0), (0, 0), (0, 1, 1), (0, 2, 1), (1, 2, 2), (-1, 0), (-1, 2), (0, 5), (4, 5),
                      (0, 1, 10 ** 20), (-5, -4), (0, 1, 2, 3, 4, 5), (3, 4, 3)):
            self.refused(holds, self.DISC, group)
            for plan in ([group], [(0, 1, 2), group], [group, (0, 1, 2)]):
                self.refused(broken_groups, self.DISC, plan)
                self.refused(mended_by_parity, self.DISC, plan)
                self.refused(with_parity, disc_with(1, 2, 3, 4, 5), plan)

    def test_groups_at_their_ends(self):
        for group in ((0, 1), (0, 4), (3, 4), (0, 1, 2, 3, 4)):
            self.assertIn(holds(self.DISC, group), (True, False))
            self.assertEqual(len(with_parity(disc_with(1, 2, 3, 4, 5), [group])), 5)


class HoldsTest(ParityTest):

    def test_groups_that_hold(self):
        disc = disc_with(1, 2, 3, 1, None)
        for group in ((0, 1, 2), (0, 3), (1, 2, 3)):
            self.assertIs(holds(disc, group), True)
        self.assertIs(holds(disc_with(0, 0, 0), (0, 1, 2)), True)
        self.assertIs(holds(disc_with(1, 2, 4, 8, 15), (0, 1, 2, 3, 4)), True)

    def test_groups_that_do_not_hold(self):
        disc = disc_with(1, 2, 3, 1, None)
        for group in ((0, 1), (1, 2), (0, 1, 3), (0, 1, 2, 3), (2, 3)):
            self.assertIs(holds(disc, group), False, group)

    def test_each_byte_counts(self):
        blocks = [[5] * SIZE, [9] * SIZE, [12] * SIZE]
        self.assertIs(holds(BlockDisc(blocks), (0, 1, 2)), True)
        for block in range(3):
            for at in range(SIZE):
                changed = [list(values) for values in blocks]
                changed[block][at] ^= 1
                self.assertIs(holds(BlockDisc(changed), (0, 1, 2)), False)

    def test_missing_blocks(self):
        for blocks in ((None, 2, 2), (2, None, 2), (2, 0, None), (None, None, 1), (0, None, None), (None, None, 0)):
            self.assertIs(holds(disc_with(*blocks), (0, 1, 2)), False)
        self.assertIs(holds(disc_with(1, None, 1), (0, 2)), True)


class BrokenTest(ParityTest):

    def test_broken_groups(self):
        disc = disc_with(1, 2, 3, None, 7)
        plan = [(0, 1), (0, 1, 2), (1, 3), (0, 4), (0, 1, 3), (2, 4)]
        self.assertEqual(broken_groups(disc, plan), [0, 3, 5])
        self.assertEqual(broken_groups(disc, plan[::-1]), [0, 2, 5])

    def test_none(self):
        self.assertEqual(broken_groups(disc_with(1, 2, 3), []), [])
        self.assertEqual(broken_groups(disc_with(1, 2, 3), [(0, 1, 2)]), [])
        self.assertEqual(broken_groups(disc_with(1, None, 3), [(0, 1, 2), (1, 2)]), [])

    def test_one_group_twice(self):
        self.assertEqual(broken_groups(disc_with(1, 2, 4), [(0, 1, 2), (0, 1, 2)]), [0, 1])


class MendingTest(ParityTest):

    def mended(self, disc, plan, blocks, made):
        told = mended_by_parity(disc, plan)
        self.assertEqual([type(told), type(told[0]), type(told[1])], [tuple, BlockDisc, list])
        self.assertEqual([firsts(told[0]), told[1]], [blocks, made])

    def test_one_missing_block(self):
        for at, value in enumerate((1, 2, 3)):
            blocks = [1, 2, 3]
            blocks[at] = None
            self.mended(disc_with(*blocks), [(0, 1, 2)], [1, 2, 3], [at])
        self.mended(disc_with(7, None), [(0, 1)], [7, 7], [1])
        self.mended(disc_with(None, 7), [(0, 1)], [7, 7], [0])

    def test_all_bytes(self):
        source = random.Random(40)
        blocks = [[source.randrange(256) for _ in range(SIZE)] for _ in range(3)]
        last = [one ^ two ^ three for one, two, three in zip(*blocks)]
        for at in range(4):
            disc = BlockDisc(blocks + [last]).with_block(at, None)
            self.assertEqual(blocks_of(mended_by_parity(disc, [(0, 1, 2, 3)])[0]), blocks + [last])

    def test_no_missing_block(self):
        """A group that does not hold is left as it is."""
        self.mended(disc_with(1, 2, 9), [(0, 1, 2)], [1, 2, 9], [])
        self.mended(disc_with(1, 2, 9, None), [(0, 1, 2)], [1, 2, 9, None], [])

    def test_two_missing_blocks(self):
        self.mended(disc_with(1, None, None), [(0, 1, 2)], [1, None, None], [])
        self.mended(disc_with(None, 5, None, 3), [(0, 1, 2)], [None, 5, None, 3], [])

    def test_no_groups(self):
        self.mended(disc_with(1, None), [], [1, None], [])

    def test_a_made_block_makes_another_one_possible(self):
        disc = disc_with(1, None, None, 4, 5)
        self.mended(disc, [(0, 1, 2), (0, 3, 4), (1, 3)], [1, 4, 5, 4, 5], [1, 2])
        self.mended(disc, [(1, 3), (0, 1, 2)], [1, 4, 5, 4, 5], [1, 2])

    def test_the_first_group_in_the_list_is_taken_each_time(self):
        disc = disc_with(1, None, None, None, 4)
        plan = [(2, 3), (1, 2), (0, 1), (3, 4)]
        # Block 1 is made of the group 2; then the group 1 comes before the group 3, and then the group 0.
        self.mended(disc, plan, [1, 1, 1, 1, 4], [1, 2, 3])
        plan = [(3, 4), (2, 3), (1, 2), (0, 1)]
        self.mended(disc, plan, [1, 4, 4, 4, 4], [3, 2, 1])

    def test_not_the_smallest_block_first(self):
        self.mended(disc_with(None, 1, None, 2), [(2, 3), (0, 1)], [1, 1, 2, 2], [2, 0])

    def test_a_chain_that_ends(self):
        disc = disc_with(1, None, None, None, None, None)
        self.mended(disc, [(4, 5), (2, 3), (1, 2), (0, 1)], [1, 1, 1, 1, None, None], [1, 2, 3])

    def test_the_first_of_two_groups_that_differ(self):
        self.mended(disc_with(1, 2, None), [(0, 2), (1, 2)], [1, 2, 1], [2])
        self.mended(disc_with(1, 2, None), [(1, 2), (0, 2)], [1, 2, 2], [2])

    def test_any_plans(self):
        source = random.Random(41)
        for _ in range(300):
            count = source.randrange(3, 10)
            blocks = [[source.randrange(256) for _ in range(SIZE)] for _ in range(count)]
            for index in source.sample(range(count), source.randrange(count)):
                blocks[index] = None
            plan = [tuple(sorted(source.sample(range(count), source.randrange(2, min(count, 4) + 1))))
                    for _ in range(source.randrange(7))]
            disc, made = mended_by_parity(BlockDisc(blocks), plan)
            self.assertEqual((blocks_of(disc), made), model_mended(blocks, plan))

    def test_the_disc_itself_stays(self):
        disc, plan = disc_with(1, None, 3), [(0, 1, 2)]
        mended_by_parity(disc, plan)
        self.assertEqual([firsts(disc), plan], [[1, None, 3], [(0, 1, 2)]])


class WithParityTest(ParityTest):

    def test_one_group(self):
        for last in (0, 9, None):
            made = with_parity(disc_with(1, 2, 4, last), [(0, 1, 2, 3)])
            self.assertIs(type(made), BlockDisc)
            self.assertEqual(firsts(made), [1, 2, 4, 7])
        self.assertEqual(firsts(with_parity(disc_with(5, 9), [(0, 1)])), [5, 5])

    def test_all_bytes(self):
        source = random.Random(42)
        blocks = [[source.randrange(256) for _ in range(SIZE)] for _ in range(4)]
        made = with_parity(BlockDisc(blocks), [(0, 2, 3)])
        self.assertEqual(blocks_of(made), blocks[:3] + [[one ^ other for one, other in zip(blocks[0], blocks[2])]])

    def test_one_group_after_the_other(self):
        self.assertEqual(firsts(with_parity(disc_with(1, 2, 0, 0), [(0, 1, 2), (1, 2, 3)])), [1, 2, 3, 1])
        self.assertEqual(firsts(with_parity(disc_with(1, 2, 0, 0), [(1, 2, 3), (0, 1, 2)])), [1, 2, 3, 2])
        self.assertEqual(firsts(with_parity(disc_with(1, 2, 8), [(0, 2), (1, 2)])), [1, 2, 2])

    def test_no_group(self):
        self.assertEqual(firsts(with_parity(disc_with(1, None), [])), [1, None])

    def test_missing_blocks_of_no_group_stay(self):
        self.assertEqual(firsts(with_parity(disc_with(1, None, 3), [(0, 2)])), [1, None, 1])

    def test_a_missing_block_that_is_needed(self):
        for blocks in ((None, 2, 4), (1, None, 4), (None, 2, None), (None, None, 4)):
            self.refused(with_parity, disc_with(*blocks), [(0, 1, 2)])
        self.refused(with_parity, disc_with(1, 2, None, 4), [(0, 1), (2, 3)])

    def test_a_missing_block_that_is_made_at_that_time(self):
        self.assertEqual(firsts(with_parity(disc_with(1, None, 3), [(0, 1), (1, 2)])), [1, 1, 1])
        self.refused(with_parity, disc_with(1, None, 3), [(1, 2), (0, 1)])

    def test_groups_hold_afterwards(self):
        plan = [(0, 1, 4), (2, 3, 5), (4, 5, 6)]
        made = with_parity(disc_with(1, 2, 4, 8, 16, 32, 64), plan)
        self.assertEqual(broken_groups(made, plan), [])
        self.assertEqual([holds(made, group) for group in plan], [True] * 3)
        self.assertTrue(mended_by_parity(made.with_block(4, None).with_block(2, None), plan)[0] == made)

    def test_the_disc_itself_stays(self):
        disc, plan = disc_with(1, 2, None), [(0, 1, 2)]
        with_parity(disc, plan)
        broken_groups(disc, plan)
        self.assertEqual([firsts(disc), plan], [[1, 2, None], [(0, 1, 2)]])


if __name__ == "__main__":
    unittest.main()
