"""Copy protections: the features of a track, and reads of protected tracks (points 25 to 27)."""

from discwright.flux import check_cell, fixed_cells, weak_places
from discwright.runs import runs_of
from discwright.tracks import found_sectors, track_cells


def address_counts(sectors):
    """How often each address stands among the sectors of a read, a dict."""
    counts = {}
    for sector in sectors:
        counts[sector[1]] = counts.get(sector[1], 0) + 1
    return counts


def doubled_features(sectors_by_read):
    """The features of the addresses that stand more than once in a read."""
    greatest = {}
    for sectors in sectors_by_read:
        counts = address_counts(sectors)
        for address in counts:
            greatest[address] = max(greatest.get(address, 0), counts[address])
    return [("doubled", address, greatest[address]) for address in sorted(greatest) if greatest[address] > 1]


def data_features(sectors, addresses):
    """The features of the addresses without good data."""
    with_data = {sector[1]: True for sector in sectors if sector[3] is not None}
    with_good = {sector[1]: True for sector in sectors if sector[4]}
    # An address that is never found with data has no data that could be wrong.
    wrong = [("wrong data", address) for address in addresses if address in with_data and address not in with_good]
    return wrong + [("no data", address) for address in addresses if address not in with_data]


def features(place, reads, cell, wanted):
    """The features of a track at a place with a wanted number of cells (point 25)."""
    check_cell(cell)
    lists = [fixed_cells(read, cell) for read in reads]
    told = [("weak", first, count) for first, count in runs_of(weak_places(lists))]
    good = [[sector for sector in found_sectors(cells) if sector[2]] for cells in lists]
    sectors = [sector for found in good for sector in found]
    addresses = sorted({sector[1] for sector in sectors})
    told.extend(doubled_features(good) + data_features(sectors, addresses))
    longest = max([len(cells) for cells in lists])
    if longest > wanted:
        told.append(("long", longest))
    if len({address[3] for address in addresses}) > 1:
        told.append(("mixed sizes",))
    return told + [("odd address", address) for address in addresses if address[:2] != tuple(place)]


def is_changed(number, index):
    """True if the cell with an index in a run is to be changed in the read with a number (point 26)."""
    pattern = (number * 29 + index * 13) % 256
    return (pattern >> (index % 8)) & 1 == 1


def protected_cells(sectors, runs, number, *, length=0):
    """The cells of the read with a number of a protected track (point 26)."""
    cells = track_cells(sectors, length=length)
    for place, count in runs:
        # The first and the last cell have only one neighbour, so they are passed over.
        for at in range(max(place, 1), min(place + count, len(cells) - 1)):
            if is_changed(number, at - place) and cells[at - 1:at + 2] == [0, 0, 0]:
                cells[at] = 1
    return cells
