"""Sectors on tracks in MFM, after the IBM format (points 13 to 17)."""

from discwright.bytework import are_bytes, crc, exclusive, two_bytes
from discwright.encodings import mfm_cells, read_mfm
from discwright.errors import InvalidSector

# The byte 161 without the clock between its third and fourth zero, so that no data look like it.
MARK = (0, 1, 0, 0, 0, 1, 0, 0, 1, 0, 0, 0, 1, 0, 0, 1)
MARKS_LENGTH = 48
MARK_BYTES = (161, 161, 161)
ADDRESS_BYTE = 254
DATA_BYTE = 251
# All that is read of an address: its first byte, the four numbers and the CRC.
ADDRESS_LENGTH = 7
GREATEST_SIZE = 5
FARTHEST_DATA = 960


class Sector:
    """A sector that is to be written, perhaps with faults."""

    def __init__(self, address, data, *, address_wrong=False, data_wrong=False):
        self.address = tuple(address)
        self.data = None if data is None else tuple(data)
        self.address_wrong = address_wrong
        self.data_wrong = data_wrong

    def __eq__(self, other):
        return (
            isinstance(other, Sector) and self.address == other.address and self.data == other.data
            and self.address_wrong == other.address_wrong and self.data_wrong == other.data_wrong
        )


def data_length(size):
    """The number of data bytes for a size from 0 to 5."""
    return 16 << size


def is_sector(sector):
    """True if a sector is as point 13 says."""
    if not are_bytes(sector.address) or sector.address[3] > GREATEST_SIZE:
        return False
    if sector.data is None:
        return True
    return len(sector.data) == data_length(sector.address[3]) and are_bytes(sector.data)


def check_sectors(sectors):
    """Raises InvalidSector for the first sector that is not as point 13 says."""
    for index, sector in enumerate(sectors):
        if not is_sector(sector):
            raise InvalidSector(index)


def track_bytes(sectors):
    """The number of bytes of a track, marks included, without further gap bytes."""
    check_sectors(sectors)
    count = 10
    for sector in sectors:
        count += 32
        if sector.data is not None:
            count += 12 + len(sector.data)
    return count


def gap_cells(count, before):
    """The cells of gap bytes behind a bit."""
    return mfm_cells([78] * count, before=before)


def field_cells(values, wrong):
    """The cells of bytes 0, marks, some bytes and their CRC, which may be wrong; a gap stands before them."""
    check = crc(list(MARK_BYTES) + values)
    if wrong:
        check = exclusive(check, 1)
    # The last bit of a gap byte is 0, that of a mark 1.
    return mfm_cells([0] * 6, before=0) + list(MARK) * 3 + mfm_cells(values + two_bytes(check), before=1)


def track_cells(sectors, *, length=0):
    """The cells of a track with sectors and at least a wanted number of bytes."""
    missing = length - track_bytes(sectors)
    cells = gap_cells(10, 0)
    for sector in sectors:
        cells.extend(field_cells([ADDRESS_BYTE] + list(sector.address), sector.address_wrong))
        cells.extend(gap_cells(8, cells[-1]))
        if sector.data is not None:
            cells.extend(field_cells([DATA_BYTE] + list(sector.data), sector.data_wrong))
        cells.extend(gap_cells(8, cells[-1]))
    cells.extend(gap_cells(max(0, missing), 0))
    return cells


def mark_places(cells):
    """The places of three marks one behind the other, from the left, none overlapping."""
    marks = list(MARK) * 3
    places = []
    at = 0
    while at + MARKS_LENGTH <= len(cells):
        if cells[at:at + MARKS_LENGTH] == marks:
            places.append(at)
            at += MARKS_LENGTH
        else:
            at += 1
    return places


def read_behind(cells, place, count):
    """The bytes behind the marks at a place, at most so many, and their faults."""
    start = place + MARKS_LENGTH
    return read_mfm(cells[start:start + 16 * count], before=1)


def crc_fits(values):
    """True if bytes behind marks end with their CRC."""
    return two_bytes(crc(list(MARK_BYTES) + values[:-2])) == values[-2:]


def data_behind(cells, size, end, place):
    """The data at marks and whether they are good, if they are those of an address with its end."""
    if size > GREATEST_SIZE or not 0 <= place - end <= FARTHEST_DATA:
        return None, False
    length = data_length(size)
    values, faults = read_behind(cells, place, length + 3)
    if len(values) < length + 3 or values[0] != DATA_BYTE:
        return None, False
    return tuple(values[1:length + 1]), not faults and crc_fits(values)


def found_sectors(cells):
    """What is found of the sectors of a track, in the order of the places (points 15 and 16)."""
    places = mark_places(cells)
    found = []
    for at, place in enumerate(places):
        values, _ = read_behind(cells, place, ADDRESS_LENGTH)
        if len(values) < ADDRESS_LENGTH or values[0] != ADDRESS_BYTE:
            continue
        address = tuple(values[1:5])
        data, data_good = None, False
        # Only the next marks can be those of the data, as no others may stand between.
        if at + 1 < len(places):
            end = place + MARKS_LENGTH + 16 * ADDRESS_LENGTH
            data, data_good = data_behind(cells, address[3], end, places[at + 1])
        found.append((place, address, crc_fits(values), data, data_good))
    return found
