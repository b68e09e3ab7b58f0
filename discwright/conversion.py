"""Discs with either kind of file system: their files, conversion and comparison (points 61 and 62)."""

from discwright.chains import ChainSystem, head_numbers, make_chains, read_chain, read_file
from discwright.errors import InvalidFiles, NoFileSystem
from discwright.extents import ExtentSystem, directory_blocks, make_extents, read_entries, read_extent
from discwright.patches import common_beginning

CHAINS = "chains"
EXTENTS = "extents"
NONE = "none"


class FileRead:
    """What is read of a file: its bytes, how many of them are damaged, and whether it is whole."""

    def __init__(self, name, told):
        values, runs, _, whole = told
        self.name = name
        self.data = values
        self.damaged = sum([count for _, count in runs])
        self.whole = whole


def has_chain_head(disc):
    """True if the head of a disc is right for a file system of chains."""
    try:
        head_numbers(disc)
    except NoFileSystem:
        return False
    return True


def has_extent_head(disc):
    """True if the head of a disc is right for a file system of extents."""
    try:
        directory_blocks(disc)
    except NoFileSystem:
        return False
    return True


def kind_of(disc):
    """The kind of the file system for which the head of a disc is right: "chains", "extents" or "none"."""
    if has_chain_head(disc):
        return CHAINS
    return EXTENTS if has_extent_head(disc) else NONE


def files_read(disc):
    """What is read of all files of a disc with either kind of file system, in the order of the directory."""
    kind = kind_of(disc)
    if kind == CHAINS:
        system = ChainSystem(disc)
        return [FileRead(entry.name, read_file(system, entry)) for entry in system.files]
    if kind == EXTENTS:
        system = ExtentSystem(disc)
        return [FileRead(name, read_entries(disc, system.file(name))) for name in system.names()]
    raise NoFileSystem("the head is right for no kind of file system")


def all_files(disc):
    """The pairs of the name and the bytes of each file, in the order of the directory."""
    return [(file.name, file.data) for file in files_read(disc)]


def file_values(disc, name):
    """The bytes of the file with a name, or None if there is none, or no file system."""
    kind = kind_of(disc)
    try:
        if kind == CHAINS:
            return read_chain(disc, name)[0]
        return read_extent(disc, name)[0] if kind == EXTENTS else None
    except InvalidFiles:
        return None


def converted(disc, kind, count, size, directory):
    """A new disc of a kind with the files of a disc, and the names of those that were not whole."""
    files = files_read(disc)
    pairs = [(file.name, file.data) for file in files]
    names = [file.name for file in files if not file.whole]
    if kind == CHAINS:
        return make_chains(pairs, count, size, directory), names
    return make_extents(pairs, count, size, directory), names


def outcome_for(name, first, second):
    """What is told of a name that stands in one of two dicts of bytes by name, or in both."""
    if name not in second:
        return name, "first"
    if name not in first:
        return name, "second"
    if first[name] == second[name]:
        return name, "same"
    return name, "differs", common_beginning(first[name], second[name])


def compared(first, second):
    """What two discs have under each name, in ascending order (point 62)."""
    one = dict(all_files(first))
    other = dict(all_files(second))
    return [outcome_for(name, one, other) for name in sorted(set(list(one) + list(other)))]
