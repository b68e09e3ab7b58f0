"""What both kinds of file systems need: padding, and files put together from blocks."""

from discwright.blockdiscs import MOST_BLOCKS, BlockDisc, is_block_size
from discwright.errors import InvalidFiles
from discwright.runs import runs_of
from discwright.texts import is_name

LEAST_COUNT = 4
MOST_DIRECTORY_BLOCKS = 20
MOST_FILE_BYTES = 60000


def padded(values, length):
    """Bytes that are filled up with bytes 0 to a length."""
    return values + [0] * (length - len(values))


def cut(values, size):
    """Bytes in pieces of a size."""
    return [values[at:at + size] for at in range(0, len(values), size)]


def blocks_for(length, size):
    """How many blocks of a size so many bytes need."""
    return (length + size - 1) // size


def whole_blocks(values, size):
    """Bytes that are filled up with bytes 0 to the end of their last block."""
    return padded(values, size * blocks_for(len(values), size))


def check_files(files, count, size, directory):
    """Raises InvalidFiles if files, or the numbers of a disc for them, are not valid by themselves."""
    names = [name for name, _ in files]
    if not all([is_name(name) for name in names]) or len(set(names)) != len(names):
        raise InvalidFiles("a name is not valid, or stands twice")
    if not LEAST_COUNT <= count <= MOST_BLOCKS or not is_block_size(size):
        raise InvalidFiles("the number or the size of the blocks is not allowed")
    if not 1 <= directory <= MOST_DIRECTORY_BLOCKS:
        raise InvalidFiles("the number of the blocks of the directory is out of range")
    if not all([len(values) <= MOST_FILE_BYTES for _, values in files]):
        raise InvalidFiles("a file has too many bytes")


def check_room(files, count, size, first):
    """Raises InvalidFiles if the data blocks, from a first one on, are too few for files."""
    if first + sum([blocks_for(len(values), size) for _, values in files]) > count:
        raise InvalidFiles("the data blocks are too few")


def file_data(files, size):
    """The bytes of files, each filled up to the end of its last block, one behind the other."""
    data = []
    for _, values in files:
        data.extend(whole_blocks(values, size))
    return data


def disc_with(values, count, size):
    """A block disc with bytes at its beginning and bytes 0 behind them."""
    return BlockDisc(cut(padded(values, count * size), size))


def assembled(disc, indexes, length):
    """The bytes of a file of a length and its damaged runs.

    Its blocks have these indexes; None stands for a block that is not known.
    """
    values = []
    damaged = []
    for index in indexes:
        block = None if index is None else disc.block(index)
        offset = len(values)
        count = min(disc.size, length - offset)
        if block is None:
            damaged.extend(list(range(offset, offset + count)))
            values.extend([0] * count)
        else:
            values.extend(block[:count])
    return values, runs_of(damaged)
