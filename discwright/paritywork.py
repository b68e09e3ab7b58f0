"""Parity plans for block discs (point 40)."""

from discwright.blockdiscs import DiscInWork
from discwright.bytework import parity
from discwright.errors import InvalidPlan


def is_group(disc, group):
    """True if this is an ascending tuple of at least two indexes of blocks."""
    ascending = all([one < other for one, other in zip(group, group[1:])])
    return len(group) >= 2 and ascending and group[0] >= 0 and group[-1] < len(disc)


def check_plan(disc, plan):
    """Raises InvalidPlan if a group of a plan is none."""
    if not all([is_group(disc, group) for group in plan]):
        raise InvalidPlan("a group is no ascending tuple of at least two indexes of blocks")


def group_blocks(disc, group):
    """The blocks of a group, in its order."""
    return [disc.block(index) for index in group]


def holds(disc, group):
    """True if a group holds: all its blocks are there, and the last one is the parity of the others."""
    check_plan(disc, [group])
    blocks = group_blocks(disc, group)
    return None not in blocks and parity(blocks[:-1]) == blocks[-1]


def broken_groups(disc, plan):
    """The indexes of the groups all of whose blocks are there and that do not hold."""
    check_plan(disc, plan)
    return [at for at, group in enumerate(plan) if None not in group_blocks(disc, group) and not holds(disc, group)]


def first_to_mend(plan, missing):
    """The first group with exactly one of the missing blocks, and the index of this block; None if there is none."""
    for group in plan:
        lost = [index for index in group if index in missing]
        if len(lost) == 1:
            return group, lost[0]
    return None


def mended_by_parity(disc, plan):
    """The disc with the blocks that parity makes, and their indexes in the order in which they were made."""
    check_plan(disc, plan)
    work = DiscInWork(disc)
    missing = {index: True for index in disc.missing()}
    made = []
    found = first_to_mend(plan, missing)
    while found is not None:
        group, lost = found
        work.put(lost, parity([work.block(index) for index in group if index != lost]))
        made.append(lost)
        del missing[lost]
        found = first_to_mend(plan, missing)
    return work.finished(), made


def with_parity(disc, plan):
    """The disc in which the last block of each group in order is the parity of the others."""
    check_plan(disc, plan)
    work = DiscInWork(disc)
    for group in plan:
        blocks = group_blocks(work, group[:-1])
        if None in blocks:
            raise InvalidPlan("a block that the parity is made of is missing")
        work.put(group[-1], parity(blocks))
    return work.finished()
