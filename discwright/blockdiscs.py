"""Discs of blocks, taken from images through geometries, and made images again (points 28 and 29)."""

from discwright.bytework import are_bytes
from discwright.errors import InvalidDisc, InvalidImage, InvalidRead
from discwright.flux import check_cell, flux_of
from discwright.images import Image
from discwright.merging import outcomes
from discwright.tracks import GREATEST_SIZE, Sector, data_length, track_cells

MOST_BLOCKS = 2000
MOST_CYLINDERS = 100
MOST_HEADS = 2
MOST_SECTORS = 40


class BlockDisc:
    """A list of blocks of one size; a block is a list of bytes, or None if it is missing."""

    def __init__(self, blocks):
        there = [block for block in blocks if block is not None]
        if len(blocks) > MOST_BLOCKS or not there:
            raise InvalidDisc("there are too many blocks, or none that is not missing")
        size = len(there[0])
        if not is_block_size(size) or not all([len(block) == size and are_bytes(block) for block in there]):
            raise InvalidDisc("a block has a wrong number of bytes, or a value that is no byte")
        self.size = size
        self._blocks = tuple([None if block is None else tuple(block) for block in blocks])

    def __len__(self):
        return len(self._blocks)

    def __eq__(self, other):
        return isinstance(other, BlockDisc) and self._blocks == other._blocks

    def block(self, index):
        """The list of the bytes of a block, or None if it is missing."""
        block = self._blocks[index]
        return None if block is None else list(block)

    def missing(self):
        """The ascending list of the indexes of missing blocks."""
        return [index for index, block in enumerate(self._blocks) if block is None]

    def with_block(self, index, values):
        """The disc with another block, a list of bytes or None."""
        if not 0 <= index < len(self._blocks):
            raise InvalidDisc("there is no block with this index")
        blocks = list(self._blocks)
        blocks[index] = values
        return BlockDisc(blocks)


class DiscInWork:
    """A block disc of which blocks are put anew, one after the other."""

    def __init__(self, disc):
        self.disc = disc
        self._changed = {}

    def block(self, index):
        """The list of the bytes of a block as it is now, or None if it is missing."""
        if index in self._changed:
            return list(self._changed[index])
        return self.disc.block(index)

    def put(self, index, values):
        """Puts a block."""
        self._changed[index] = list(values)

    def finished(self):
        """The block disc as it is now."""
        return BlockDisc([self.block(index) for index in range(len(self.disc))])


def is_block_size(size):
    """True if blocks may have so many bytes."""
    return size in [data_length(number) for number in range(GREATEST_SIZE + 1)]


def check_geometry(geometry):
    """Raises InvalidDisc if a number of a geometry is out of range, or there are too many blocks."""
    cylinders, heads, sectors, size = geometry
    if not (1 <= cylinders <= MOST_CYLINDERS and 1 <= heads <= MOST_HEADS and 1 <= sectors <= MOST_SECTORS):
        raise InvalidDisc("a geometry has too many or no cylinders, heads or sectors")
    if not 0 <= size <= GREATEST_SIZE or cylinders * heads * sectors > MOST_BLOCKS:
        raise InvalidDisc("a geometry has a size that is out of range, or too many blocks")


def track_places(geometry):
    """The places of the tracks of a geometry, in the order of their blocks."""
    return [(cylinder, head) for cylinder in range(geometry[0]) for head in range(geometry[1])]


def track_addresses(place, geometry):
    """The addresses of the sectors of a track, in the order of their blocks."""
    return [(place[0], place[1], number + 1, geometry[3]) for number in range(geometry[2])]


def taken_blocks(image, geometry):
    """The blocks that are taken from an image through a geometry; all may be missing."""
    check_geometry(geometry)
    blocks = []
    for place in track_places(geometry):
        told = dict(outcomes(image.reads(place), image.cell))
        for address in track_addresses(place, geometry):
            outcome = told.get((address, 0), ("lost",))
            blocks.append(outcome[1] if outcome[0] == "good" else None)
    return blocks


def disc_of(image, geometry):
    """The block disc that is taken from an image through a geometry."""
    return BlockDisc(taken_blocks(image, geometry))


def read_with_blocks(blocks, place, geometry, cell):
    """The read of a track with these blocks."""
    sectors = [Sector(address, block) for address, block in zip(track_addresses(place, geometry), blocks)]
    try:
        return flux_of(track_cells(sectors), cell)
    except InvalidRead:
        raise InvalidImage("a track has more intervals than a read may have")


def image_of(disc, geometry, cell, note):
    """The image that a geometry makes of a block disc."""
    check_geometry(geometry)
    if len(disc) != geometry[0] * geometry[1] * geometry[2] or disc.size != data_length(geometry[3]):
        raise InvalidDisc("the geometry has another number of blocks, or another size")
    check_cell(cell)
    tracks = {}
    for at, place in enumerate(track_places(geometry)):
        first = at * geometry[2]
        blocks = [disc.block(index) for index in range(first, first + geometry[2])]
        tracks[place] = [read_with_blocks(blocks, place, geometry, cell)]
    return Image(cell, note, tracks)
