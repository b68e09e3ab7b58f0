"""Repairs of damaged block discs, which are taken only with certificates (points 42 to 45)."""

from discwright.blockdiscs import DiscInWork
from discwright.bytework import byte_bits, crc, exclusive, parity
from discwright.errors import InvalidCase, InvalidPlan, NotTaken
from discwright.paritywork import check_plan, group_blocks
from discwright.unknowns import crc_changes, with_bits_changed

MOST_PLACES = 3


class Case:
    """What is known of a damaged disc: other dumps of it, a parity plan, and the CRCs that blocks must have."""

    def __init__(self, disc, dumps, plan, crcs):
        if not all([len(dump) == len(disc) and dump.size == disc.size for dump in dumps]):
            raise InvalidCase("a dump has another number or another size of blocks")
        if not all([0 <= index < len(disc) and 0 <= crcs[index] <= 65535 for index in crcs]):
            raise InvalidCase("a CRC is out of range, or told for an index that no block has")
        try:
            check_plan(disc, plan)
        except InvalidPlan:
            raise InvalidCase("the parity plan is not valid")
        self.disc = disc
        self.dumps = tuple(dumps)
        self.plan = tuple([tuple(group) for group in plan])
        self.crcs = dict(crcs)

    def wrong_blocks(self):
        """The ascending list of the blocks that are wrong (point 43)."""
        return wrong_in(self, self.disc)


def fits(case, index, values):
    """True if bytes have the CRC that a block must have, or this CRC is not known."""
    return index not in case.crcs or crc(values) == case.crcs[index]


def is_wrong(case, disc, index):
    """True if a block of a disc is wrong for a case: missing, or not fitting the CRC that it must have."""
    block = disc.block(index)
    return block is None or not fits(case, index, block)


def wrong_in(case, disc):
    """The ascending list of the blocks of a disc that are wrong for a case."""
    return [index for index in range(len(case.disc)) if is_wrong(case, disc, index)]


def dump_has(case, number, index, values):
    """True if there is a dump with a number, and it has these bytes as a block."""
    return 0 <= number < len(case.dumps) and case.dumps[number].block(index) == values


def others_of(group, index):
    """The indexes of a group but one."""
    return [other for other in group if other != index]


def parity_gives(case, disc, number, index, values):
    """True if the other blocks of a group are there and not wrong, and the bytes make the group hold."""
    if not 0 <= number < len(case.plan) or index not in case.plan[number]:
        return False
    others = others_of(case.plan[number], index)
    if any([is_wrong(case, disc, other) for other in others]):
        return False
    return parity(group_blocks(disc, others)) == values


def different_bits(first, second):
    """The ascending list of the places of the bits at which bytes of the same number differ."""
    places = []
    for at, (one, other) in enumerate(zip(first, second)):
        places.extend([8 * at + bit for bit, differs in enumerate(byte_bits(exclusive(one, other))) if differs])
    return places


def bits_give(disc, index, places, values):
    """True if bytes differ from the block, which is there, just at the bits with one to three places."""
    block = disc.block(index)
    if block is None or not 1 <= len(places) <= MOST_PLACES:
        return False
    return different_bits(block, values) == list(places)


def is_taken_on(case, disc, index, values, certificate):
    """True if a repair of a block of a disc is taken, with what a case knows."""
    if not 0 <= index < len(case.disc) or not is_wrong(case, disc, index):
        return False
    if len(values) != case.disc.size or not fits(case, index, values):
        return False
    word = certificate[0]
    if word == "dumps":
        first, second = certificate[1:]
        return first != second and dump_has(case, first, index, values) and dump_has(case, second, index, values)
    if word == "parity":
        return parity_gives(case, disc, certificate[1], index, values)
    if index not in case.crcs:
        return False
    if word == "dump":
        return dump_has(case, certificate[1], index, values)
    return bits_give(disc, index, certificate[1], values)


def is_taken(case, index, values, certificate):
    """True if a repair of a block is taken (points 42 and 43)."""
    return is_taken_on(case, case.disc, index, values, certificate)


def dump_proposals(case, index):
    """The proposals that dumps make for a block: first one dump, then two."""
    numbers = [number for number, dump in enumerate(case.dumps) if dump.block(index) is not None]
    proposals = [(case.dumps[number].block(index), ("dump", number)) for number in numbers]
    for first in numbers:
        block = case.dumps[first].block(index)
        proposals.extend([(block, ("dumps", first, second)) for second in numbers if second != first])
    return proposals


def parity_proposals(case, disc, index):
    """The proposals that groups make for a block."""
    proposals = []
    for number, group in enumerate(case.plan):
        blocks = group_blocks(disc, others_of(group, index)) if index in group else [None]
        if None not in blocks:
            proposals.append((parity(blocks), ("parity", number)))
    return proposals


def crc_proposals(case, disc, index):
    """The proposals for a block that the CRC makes by one bit."""
    block = disc.block(index)
    if block is None or index not in case.crcs:
        return []
    difference = exclusive(crc(block), case.crcs[index])
    places = [place for place, change in enumerate(crc_changes(len(block))) if change == difference]
    return [(with_bits_changed(block, [place]), ("crc", (place,))) for place in places]


def repair_on(case, disc, index):
    """The first repair of a block of a disc that is taken, bytes and a certificate, or None."""
    if not is_wrong(case, disc, index):
        return None
    proposals = dump_proposals(case, index) + parity_proposals(case, disc, index) + crc_proposals(case, disc, index)
    for values, certificate in proposals:
        if is_taken_on(case, disc, index, values, certificate):
            return values, certificate
    return None


def repair_for(case, index):
    """The first repair of a block that is taken, bytes and a certificate, or None (point 45)."""
    return repair_on(case, case.disc, index)


def repaired(case, ledger):
    """The case after the repairs of a ledger, one after the other."""
    work = DiscInWork(case.disc)
    for at, (index, values, certificate) in enumerate(ledger):
        if not is_taken_on(case, work, index, values, certificate):
            raise NotTaken(at)
        work.put(index, values)
    return Case(work.finished(), case.dumps, case.plan, case.crcs)


def found_repairs(case):
    """The ledger of the repairs that are found, going through the wrong blocks as long as one gets a repair."""
    work = DiscInWork(case.disc)
    ledger = []
    going_on = True
    while going_on:
        count = len(ledger)
        for index in wrong_in(case, work):
            repair = repair_on(case, work, index)
            if repair is not None:
                ledger.append((index, repair[0], repair[1]))
                work.put(index, repair[0])
        going_on = len(ledger) > count
    return ledger
