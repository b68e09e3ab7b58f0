"""A file system of extents, after the directories of CP/M (points 35 to 39)."""

from discwright.blockdiscs import DiscInWork
from discwright.bytework import crc, number_of, total, two_bytes
from discwright.errors import InvalidFiles, NoFileSystem
from discwright.filework import (
    MOST_DIRECTORY_BLOCKS, assembled, blocks_for, check_files, check_room, cut, disc_with, file_data, padded,
)
from discwright.texts import padded_codes, padded_name

FIRST_BYTES = (69, 88)
ENTRY_BYTES = 32
USED = 1
UNUSED = 229
EXTENT_BLOCKS = 8


class ExtentEntry:
    """An extent of a file as an entry of the directory tells it, with its place among the entries."""

    def __init__(self, place, part):
        self.place = place
        self.name = padded_name(part[1:9])
        self.number = part[9]
        self.length = number_of(part[10:12])
        self.check = number_of(part[12:14])
        self.blocks = [number_of(pair) for pair in cut(part[15:31], 2)][:part[14]]


class ExtentSystem:
    """What can be read of a file system of extents: the entries in use, the deleted ones, the places of bad ones."""

    def __init__(self, disc):
        self.disc = disc
        self.first_data = 1 + directory_blocks(disc)
        self.used = []
        self.deleted = []
        self.bad = []
        for place, part in directory_parts(disc, self.first_data):
            right = is_right_entry(part)
            entry = ExtentEntry(place, part)
            if part[0] == UNUSED and right:
                self.deleted.append(entry)
            elif part[0] == USED and right and self.has_data_blocks(entry):
                self.used.append(entry)
            elif part[0] != UNUSED:
                self.bad.append(place)

    def has_data_blocks(self, entry):
        """True if all blocks of an entry are data blocks."""
        return all([self.first_data <= index < len(self.disc) for index in entry.blocks])

    def names(self):
        """The names of the entries in use, each once, in order."""
        return list({entry.name: True for entry in self.used})

    def file(self, name):
        """The entries in use with a name; raises InvalidFiles if there is none."""
        entries = with_name(self.used, name)
        if not entries:
            raise InvalidFiles("there is no file with this name")
        return entries


def with_name(entries, name):
    """Those of some entries that have a name."""
    return [entry for entry in entries if entry.name == name]


def head_bytes(count, directory):
    """The bytes of the head of a disc, without the bytes 0 behind them."""
    return list(FIRST_BYTES) + two_bytes(count) + [directory]


def with_sum(part):
    """The first 31 bytes of an entry and their sum."""
    return part + [total(part) % 256]


def is_right_entry(part):
    """True if the form and the sum of an entry are right once its first byte is the one of an entry in use."""
    part = [USED] + part[1:]
    count = part[14]
    right = padded_name(part[1:9]) is not None and count <= EXTENT_BLOCKS
    return right and not any(part[15 + 2 * count:31]) and part == with_sum(part[:31])


def extent_counts(length, size):
    """How many blocks each extent of a file of a length must have, in the order of their numbers."""
    count = blocks_for(length, size)
    return [min(EXTENT_BLOCKS, count - at) for at in range(0, max(1, count), EXTENT_BLOCKS)]


def file_entries(name, values, first, size):
    """The entries of a file whose blocks stand one behind the other from a first one on."""
    entries = []
    for number, count in enumerate(extent_counts(len(values), size)):
        blocks = []
        for index in range(first, first + count):
            blocks.extend(two_bytes(index))
        part = [USED] + padded_codes(name) + [number] + two_bytes(len(values)) + two_bytes(crc(values)) + [count]
        entries.append(with_sum(padded(part + blocks, ENTRY_BYTES - 1)))
        first += count
    return entries


def make_extents(files, count, size, directory):
    """A block disc with a file system of extents and these files."""
    check_files(files, count, size, directory)
    if size < ENTRY_BYTES:
        raise InvalidFiles("the size of the blocks is not allowed")
    check_room(files, count, size, 1 + directory)
    first = 1 + directory
    entries = []
    for name, values in files:
        entries.extend(file_entries(name, values, first, size))
        first += blocks_for(len(values), size)
    free = directory * size // ENTRY_BYTES - len(entries)
    if free < 0:
        raise InvalidFiles("the directory is too small")
    entries.extend([with_sum(padded([UNUSED], ENTRY_BYTES - 1))] * free)
    system = padded(head_bytes(count, directory), size) + [value for part in entries for value in part]
    return disc_with(system + file_data(files, size), count, size)


def directory_blocks(disc):
    """The number of blocks of the directory; raises NoFileSystem if the head is not right."""
    head = disc.block(0)
    if disc.size < ENTRY_BYTES or head is None or head != padded(head_bytes(len(disc), head[4]), disc.size):
        raise NoFileSystem("the head is missing or not right")
    if not 1 <= head[4] <= MOST_DIRECTORY_BLOCKS or 1 + head[4] > len(disc):
        raise NoFileSystem("the directory has a wrong number of blocks, or ends beyond the disc")
    return head[4]


def directory_parts(disc, end):
    """The pairs of the place of an entry and its bytes, in the blocks of the directory that are there."""
    parts = []
    for index in range(1, end):
        block = disc.block(index)
        pieces = [] if block is None else cut(block, ENTRY_BYTES)
        first = (index - 1) * (disc.size // ENTRY_BYTES)
        parts.extend([(first + at, part) for at, part in enumerate(pieces)])
    return parts


def entry_reason(taken, counts, first):
    """The reason why the entries of a file are not right, or "".

    They are told by a dict from their numbers, with the first one of the directory; their extents must have
    these counts of blocks.
    """
    if any([(entry.length, entry.check) != (first.length, first.check) for entry in list(taken.values())]):
        return "other lengths"
    having = {number: len(taken[number].blocks) for number in taken}
    if any([having.get(number, -1) < count for number, count in enumerate(counts)]):
        return "missing extent"
    if any([number >= len(counts) or having[number] > counts[number] for number in having]):
        return "extra blocks"
    return ""


def read_entries(disc, entries):
    """The bytes of a file with these entries, its damaged runs, the reason, and whether it is whole."""
    first = entries[0]
    taken = {}
    for entry in entries:
        taken.setdefault(entry.number, entry)
    counts = extent_counts(first.length, disc.size)
    indexes = []
    for number, count in enumerate(counts):
        blocks = taken[number].blocks if number in taken else []
        indexes.extend((blocks + [None] * count)[:count])
    values, runs = assembled(disc, indexes, first.length)
    reason = entry_reason(taken, counts, first)
    return values, runs, reason, not runs and reason == "" and crc(values) == first.check


def all_different(values):
    """True if no two of some numbers are equal."""
    return len(set(values)) == len(values)


def all_blocks(entries):
    """The indexes of the blocks of entries, one behind the other."""
    return [index for entry in entries for index in entry.blocks]


def extent_files(disc):
    """The names of the entries that are right, each once, in order."""
    return ExtentSystem(disc).names()


def read_extent(disc, name):
    """The bytes of a file, its damaged runs, the reason, and whether it is whole (point 38)."""
    return read_entries(disc, ExtentSystem(disc).file(name))


def bad_entries(disc):
    """The numbers of bad entries, counted over the whole directory."""
    return ExtentSystem(disc).bad


def with_first_bytes(disc, entries, value):
    """The disc in which entries have another first byte."""
    work = DiscInWork(disc)
    for entry in entries:
        offset = entry.place * ENTRY_BYTES
        block = work.block(1 + offset // disc.size)
        block[offset % disc.size] = value
        work.put(1 + offset // disc.size, block)
    return work.finished()


def delete_file(disc, name):
    """The disc in which all entries of a file are deleted."""
    return with_first_bytes(disc, ExtentSystem(disc).file(name), UNUSED)


def can_be_brought_back(system, name):
    """True if a deleted file can be brought back (point 39)."""
    entries = with_name(system.deleted, name)
    if not entries or with_name(system.used, name):
        return False
    if not all_different([entry.number for entry in entries]):
        return False
    if not all([system.has_data_blocks(entry) for entry in entries]):
        return False
    used = {index: True for index in all_blocks(system.used)}
    if not all_different(all_blocks(entries)) or any([index in used for index in all_blocks(entries)]):
        return False
    return read_entries(system.disc, entries)[3]


def deleted_files(disc):
    """The ascending list of the names that can be brought back."""
    system = ExtentSystem(disc)
    names = sorted({entry.name for entry in system.deleted})
    return [name for name in names if can_be_brought_back(system, name)]


def bring_back(disc, name):
    """The disc in which the entries of a deleted file are in use again."""
    system = ExtentSystem(disc)
    if not can_be_brought_back(system, name):
        raise InvalidFiles("there is no deleted file with this name that can be brought back")
    return with_first_bytes(disc, with_name(system.deleted, name), USED)


def are_extents_sound(disc):
    """True if a disc has a sound file system of extents (point 36)."""
    try:
        system = ExtentSystem(disc)
    except NoFileSystem:
        return False
    if system.bad or [index for index in disc.missing() if index < system.first_data]:
        return False
    if not all_different(all_blocks(system.used)):
        return False
    for name in system.names():
        entries = system.file(name)
        if not all_different([entry.number for entry in entries]) or not read_entries(disc, entries)[3]:
            return False
    return True
