"""Several reads of a track put together, sector by sector (points 22 to 24)."""

from discwright.bytework import bits_byte
from discwright.flux import check_cell, fixed_cells
from discwright.tracks import found_sectors


def sectors_by_read(reads, cell):
    """For each read, the list of what is found of its sectors."""
    check_cell(cell)
    return [found_sectors(fixed_cells(read, cell)) for read in reads]


def views_of(reads, cell):
    """The views of each key, with the indexes of their reads (point 22)."""
    views = {}
    for index, sectors in enumerate(sectors_by_read(reads, cell)):
        counts = {}
        for sector in sectors:
            address = sector[1]
            if sector[2]:
                count = counts.get(address, 0)
                counts[address] = count + 1
                views.setdefault((address, count), []).append((index, sector))
    return views


def left_out(reads, cell):
    """The number of views whose address is not good."""
    return sum([len([sector for sector in sectors if not sector[2]]) for sectors in sectors_by_read(reads, cell)])


def voted_byte(values):
    """The byte with the bits that more than half of some bytes have, or None if there is a tie."""
    bits = []
    for weight in (128, 64, 32, 16, 8, 4, 2, 1):
        ones = len([value for value in values if value & weight])
        if 2 * ones == len(values):
            return None
        bits.append(1 if 2 * ones > len(values) else 0)
    return bits_byte(bits)


def voted_data(lists):
    """The data that are voted place by place, or None if there is a tie."""
    data = [voted_byte([values[at] for values in lists]) for at in range(len(lists[0]))]
    return None if None in data else tuple(data)


def outcome_of(sectors):
    """The outcome of a key with these views (point 23)."""
    good = [sector[3] for sector in sectors if sector[4]]
    if good:
        return ("good", good[0]) if all([data == good[0] for data in good]) else ("unsteady",)
    lists = [sector[3] for sector in sectors if sector[3] is not None]
    voted = voted_data(lists) if len(lists) > 1 else None
    return ("lost",) if voted is None else ("voted", voted)


def outcomes(reads, cell):
    """The pairs of a key and its outcome, in ascending order of the keys."""
    views = views_of(reads, cell)
    return [(key, outcome_of([sector for _, sector in views[key]])) for key in sorted(views)]
