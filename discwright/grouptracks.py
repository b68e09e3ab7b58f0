"""Sectors on tracks in the group code, after Commodore's 1541 (points 65 to 67)."""

from discwright.bytework import are_bytes, exclusive
from discwright.encodings import gcr_cells, read_gcr
from discwright.errors import InvalidSector
from discwright.tracks import data_length

SYNC_CELLS = 20
LEAST_SYNC = 10
GAP_BYTES = 9
BYTE_CELLS = 10
ADDRESS_BYTE = 8
DATA_BYTE = 7
# The two last bytes of an address only fill it up, and may be damaged.
ADDRESS_LENGTH = 8
ADDRESS_GROUPS = 12


def exclusive_of(values):
    """The exclusive or of bytes, 0 for none."""
    result = 0
    for value in values:
        result = exclusive(result, value)
    return result


def check_pairs(sectors, size):
    """Raises InvalidSector for the first pair of an address and data that is not valid."""
    for index, (address, data) in enumerate(sectors):
        if not are_bytes(address) or not are_bytes(data) or len(data) != data_length(size):
            raise InvalidSector(index)


def gap_cells():
    """The cells of a gap."""
    return [0, 1, 0, 1, 0, 1, 0, 1] * GAP_BYTES


def field_cells(values):
    """The cells of a sync, some bytes and a gap."""
    return [1] * SYNC_CELLS + gcr_cells(values) + gap_cells()


def group_cells(sectors, size):
    """The cells of a track with sectors, pairs of an address and data of a size (point 65)."""
    check_pairs(sectors, size)
    cells = gap_cells()
    for address, data in sectors:
        track, number, first, second = address
        cells.extend(field_cells([ADDRESS_BYTE, exclusive_of(address), number, track, second, first, 15, 15]))
        cells.extend(field_cells([DATA_BYTE] + list(data) + [exclusive_of(data), 0, 0]))
    return cells


def syncs(cells):
    """The pairs of the place of a sync and the place behind it."""
    found = []
    count = 0
    for at, bit in enumerate(cells):
        if bit == 1:
            count += 1
        else:
            if count >= LEAST_SYNC:
                found.append((at - count, at))
            count = 0
    return found


def address_at(cells, place, end):
    """The address behind a sync and whether it is good, or None if there is none before an end."""
    values, faults = read_gcr(cells[place:min(end, place + ADDRESS_LENGTH * BYTE_CELLS)])
    if len(values) < ADDRESS_LENGTH or values[0] != ADDRESS_BYTE:
        return None
    address = (values[3], values[2], values[5], values[4])
    whole = not any([fault < ADDRESS_GROUPS for fault in faults])
    return address, whole and exclusive_of(address) == values[1]


def data_at(cells, place, end, length):
    """The data of a length behind a sync and whether they are good, or None if there are none before an end."""
    values, faults = read_gcr(cells[place:min(end, place + (length + 2) * BYTE_CELLS)])
    if len(values) < length + 2 or values[0] != DATA_BYTE:
        return None
    data = tuple(values[1:length + 1])
    return data, not faults and exclusive_of(data) == values[length + 1]


def found_groups(cells, size):
    """What is found of the sectors of a track, in the order of the places (points 66 and 67)."""
    places = syncs(cells)
    ends = [start for start, _ in places[1:]] + [len(cells)]
    found = []
    # The place and the address of the sync before, if it is that of an address.
    last = None
    for (_, place), end in zip(places, ends):
        address = address_at(cells, place, end)
        data = data_at(cells, place, end, data_length(size))
        if address is not None:
            found.append((place, address[0], address[1], None, False))
        elif data is not None and last is not None:
            found[-1] = (found[-1][0], last[0], last[1], data[0], data[1])
        last = address
    return found
