"""Reads of flux, and the cells that clocks find in them (points 5 to 9)."""

from discwright.errors import DifferentLengths, InvalidCell, InvalidRead

MOST_INTERVALS = 60000
MOST_TICKS = 1000000
LEAST_CELL = 10
GREATEST_CELL = 1000


class Read:
    """A read of a track: the intervals between changes, and the rest, in ticks."""

    def __init__(self, intervals, rest):
        if len(intervals) > MOST_INTERVALS:
            raise InvalidRead("a read has too many intervals")
        if not all([1 <= ticks <= MOST_TICKS for ticks in intervals]):
            raise InvalidRead("an interval is out of range")
        if not 0 <= rest <= MOST_TICKS:
            raise InvalidRead("the rest is out of range")
        self.intervals = tuple(intervals)
        self.rest = rest

    def __eq__(self, other):
        return isinstance(other, Read) and self.intervals == other.intervals and self.rest == other.rest

    def duration(self):
        """The sum of all ticks."""
        return sum(self.intervals) + self.rest


def is_cell(cell):
    """True if this is a length of a cell (point 6)."""
    return LEAST_CELL <= cell <= GREATEST_CELL


def check_cell(cell):
    """Raises InvalidCell if this is no length of a cell."""
    if not is_cell(cell):
        raise InvalidCell("the length of a cell is out of range")


def flux_of(cells, cell):
    """The read that cells give with a length of a cell (point 6)."""
    check_cell(cell)
    intervals = []
    count = 0
    for bit in cells:
        count += 1
        if bit == 1:
            intervals.append(cell * count)
            count = 0
    return Read(intervals, cell * count)


def fixed_cells(read, cell):
    """The cells that a fixed clock finds in a read (point 7)."""
    check_cell(cell)
    cells = []
    for ticks in read.intervals:
        count = max(1, (2 * ticks + cell) // (2 * cell))
        cells.extend([0] * (count - 1))
        cells.append(1)
    cells.extend([0] * ((2 * read.rest + cell) // (2 * cell)))
    return cells


def following_cells(read, cell):
    """The cells that a following clock finds in a read (point 8)."""
    check_cell(cell)
    cells = []
    # The period is kept in sixteenths of a tick.
    period = 16 * cell
    for ticks in read.intervals:
        count = max(1, (32 * ticks + period) // (2 * period))
        cells.extend([0] * (count - 1))
        cells.append(1)
        drift = (16 * ticks - count * period) // (8 * count)
        period = min(max(period + drift, 12 * cell), 20 * cell)
    cells.extend([0] * ((32 * read.rest + period) // (2 * period)))
    return cells


def shortest_length(lists):
    """The length of the shortest list; raises DifferentLengths if there is no list."""
    if not lists:
        raise DifferentLengths("there is no list of cells")
    return min([len(cells) for cells in lists])


def weak_places(lists):
    """The places at which not all lists of cells have the same bit (point 9)."""
    count = shortest_length(lists)
    return [at for at in range(count) if any([cells[at] != lists[0][at] for cells in lists])]


def steady_cells(lists):
    """The bits that more of the lists of cells have than not (point 9)."""
    count = shortest_length(lists)
    ones = [sum([cells[at] for cells in lists]) for at in range(count)]
    return [1 if 2 * many > len(lists) else 0 for many in ones]
