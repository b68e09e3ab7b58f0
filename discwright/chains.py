"""A file system of chains, after FAT (points 30 to 34)."""

from discwright.bytework import crc, number_of, two_bytes
from discwright.errors import InvalidFiles, NoFileSystem
from discwright.filework import (
    MOST_DIRECTORY_BLOCKS, assembled, blocks_for, check_files, check_room, cut, disc_with, file_data, padded,
    whole_blocks,
)
from discwright.texts import is_name, padded_codes, padded_name

FIRST_BYTES = (67, 72)
ENTRY_BYTES = 16
FREE = 0
END = 1
SYSTEM = 65535


class ChainEntry:
    """A file as an entry of the directory tells it."""

    def __init__(self, part):
        self.name = padded_name(part[:8])
        self.first = number_of(part[8:10])
        self.length = number_of(part[10:14])
        self.check = number_of(part[14:])


class ChainSystem:
    """What can be read of a file system of chains: its table, with None for lost entries, and its directory."""

    def __init__(self, disc):
        tables, directory = head_numbers(disc)
        self.disc = disc
        self.tables = tables
        self.directory = directory
        self.first_data = first_data_block(tables, directory)
        self.table = read_table(disc, tables)
        self.lost_blocks = [at for at in range(1 + 2 * tables, self.first_data) if disc.block(at) is None]
        self.files, self.bad = read_directory(disc, 1 + 2 * tables, self.first_data)

    def entry(self, name):
        """The entry with a name; raises InvalidFiles if there is none."""
        for entry in self.files:
            if entry.name == name:
                return entry
        raise InvalidFiles("there is no file with this name")


def is_file_name(name):
    """True if this is a name of a file."""
    return is_name(name)


def table_blocks(count, size):
    """The least number of blocks of a size that hold a table for so many blocks."""
    return blocks_for(2 * count, size)


def first_data_block(tables, directory):
    """The index of the first data block behind the head, both copies of a table and a directory."""
    return 1 + 2 * tables + directory


def head_bytes(count, tables, directory):
    """The bytes of the head of a disc, without the bytes 0 behind them."""
    return list(FIRST_BYTES) + two_bytes(count) + [tables, directory]


def table_bytes(table):
    """The bytes of a table, without the bytes 0 behind them."""
    values = []
    for number in table:
        values.extend(two_bytes(number))
    return values


def entry_bytes(name, chain, values):
    """The entry of a file with its chain of blocks and its bytes."""
    first = chain[0] if chain else 0
    length = two_bytes(len(values) // 65536) + two_bytes(len(values) % 65536)
    return padded_codes(name) + two_bytes(first) + length + two_bytes(crc(values))


def table_of(chains, first, count):
    """The table of a disc with these chains of blocks and a first data block."""
    table = [SYSTEM] * first + [FREE] * (count - first)
    for chain in chains:
        for at, index in enumerate(chain):
            table[index] = chain[at + 1] if at + 1 < len(chain) else END
    return table


def table_copy(chains, first, count, size):
    """The bytes of a copy of the table of a disc, up to the end of its last block."""
    return whole_blocks(table_bytes(table_of(chains, first, count)), size)


def system_bytes(chains, entries, count, size, directory):
    """The bytes of the head, both copies of the table and the directory of a disc with these chains and entries."""
    tables = table_blocks(count, size)
    table = table_copy(chains, first_data_block(tables, directory), count, size)
    return padded(head_bytes(count, tables, directory), size) + table + table + padded(entries, directory * size)


def chains_from(first, files, size):
    """The chains of the blocks of files, one behind the other from a first block on."""
    chains = []
    for _, values in files:
        end = first + blocks_for(len(values), size)
        chains.append(list(range(first, end)))
        first = end
    return chains


def make_chains(files, count, size, directory):
    """A block disc with a file system of chains and these files."""
    check_files(files, count, size, directory)
    first = first_data_block(table_blocks(count, size), directory)
    if len(files) * ENTRY_BYTES > directory * size:
        raise InvalidFiles("the directory is too small")
    check_room(files, count, size, first)
    chains = chains_from(first, files, size)
    entries = []
    for (name, values), chain in zip(files, chains):
        entries.extend(entry_bytes(name, chain, values))
    values = system_bytes(chains, entries, count, size, directory) + file_data(files, size)
    return disc_with(values, count, size)


def head_numbers(disc):
    """The numbers of blocks of a table and of the directory; raises NoFileSystem if the head is not right."""
    head = disc.block(0)
    tables = table_blocks(len(disc), disc.size)
    if head is None or head != padded(head_bytes(len(disc), tables, head[5]), disc.size):
        raise NoFileSystem("the head is missing or not right")
    directory = head[5]
    if not 1 <= directory <= MOST_DIRECTORY_BLOCKS or first_data_block(tables, directory) > len(disc):
        raise NoFileSystem("the directory has a wrong number of blocks, or ends beyond the disc")
    return tables, directory


def read_table(disc, tables):
    """The entries of the table, from the second copy where the first one is missing; None for lost ones."""
    table = []
    for at in range(1, 1 + tables):
        copies = [block for block in (disc.block(at), disc.block(at + tables)) if block is not None]
        if copies:
            table.extend([number_of(part) for part in cut(copies[0], 2)])
        else:
            table.extend([None] * (disc.size // 2))
    return table[:len(disc)]


def directory_parts(disc, start, end):
    """The pairs of the number of an entry and its bytes, in the directory blocks that are there, up to a free one."""
    parts = []
    for index in range(start, end):
        block = disc.block(index)
        pieces = [] if block is None else cut(block, ENTRY_BYTES)
        for at, part in enumerate(pieces):
            if part[0] == FREE:
                return parts
            parts.append(((index - start) * (disc.size // ENTRY_BYTES) + at, part))
    return parts


def read_directory(disc, start, end):
    """The entries of the directory, and the numbers of bad ones."""
    entries = []
    bad = []
    seen = {}
    for number, part in directory_parts(disc, start, end):
        entry = ChainEntry(part)
        if entry.name is None or entry.name in seen or entry.length > len(disc) * disc.size:
            bad.append(number)
        else:
            seen[entry.name] = True
            entries.append(entry)
    return entries, bad


def followed(system, entry):
    """The blocks of a file, as far as its chain can be followed, and the reason why it is not right, or ""."""
    blocks = []
    seen = {}
    index = entry.first
    for _ in range(blocks_for(entry.length, system.disc.size)):
        if index is None:
            return blocks, "lost entry"
        if not system.first_data <= index < len(system.disc):
            return blocks, "bad chain"
        if index in seen:
            return blocks, "loop"
        seen[index] = True
        blocks.append(index)
        index = system.table[index]
    if index is None:
        return blocks, "lost entry"
    # The chain of an empty file ends before it begins: it has no block whose entry could be the end.
    return blocks, ("" if index == (END if blocks else 0) else "too long")


def read_file(system, entry):
    """The bytes of a file, its damaged runs, the reason, and whether it is whole."""
    blocks, reason = followed(system, entry)
    behind = [None] * (blocks_for(entry.length, system.disc.size) - len(blocks))
    values, runs = assembled(system.disc, blocks + behind, entry.length)
    return values, runs, reason, not runs and reason == "" and crc(values) == entry.check


def chain_files(disc):
    """The names of the files in the directory, in order."""
    return [entry.name for entry in ChainSystem(disc).files]


def read_chain(disc, name):
    """The bytes of a file, its damaged runs, the reason, and whether it is whole (point 34)."""
    system = ChainSystem(disc)
    return read_file(system, system.entry(name))


def directory_faults(disc):
    """The indexes of the missing blocks of the directory, and the numbers of bad entries."""
    system = ChainSystem(disc)
    return system.lost_blocks, system.bad


def is_sound(disc):
    """True if a disc has a sound file system of chains (point 32)."""
    try:
        system = ChainSystem(disc)
    except NoFileSystem:
        return False
    if disc.missing() or system.bad:
        return False
    if not all([read_file(system, entry)[3] for entry in system.files]):
        return False
    chains = [followed(system, entry)[0] for entry in system.files]
    used = [index for chain in chains for index in chain]
    table = table_copy(chains, system.first_data, len(disc), disc.size)
    copies = [disc.block(index) for index in range(1, 1 + 2 * system.tables)]
    return len(set(used)) == len(used) and copies == cut(table + table, disc.size)
