"""Tracks described by texts, and texts read again (points 68 and 69)."""

from discwright.errors import InvalidLine
from discwright.texts import decimal_number, hex_bytes, hex_text
from discwright.tracks import Sector, check_sectors, data_length, found_sectors, is_sector

MOST_DIGITS = 5
GREATEST_LENGTH = 60000


class TrackReader:
    """What the lines of a text tell of a track, as far as they are taken."""

    def __init__(self):
        self.sectors = []
        self.runs = []
        self.length = 0

    def take(self, line, number):
        """Takes the line with a number, if it is right; True if it is."""
        words = line.split(" ")
        if words[0] == "length":
            return number == 1 and self.take_length(words[1:])
        if words[0] == "weak":
            return self.take_run(words[1:])
        # All other lines stand before those of weak cells.
        if self.runs:
            return False
        if line == "wrong address":
            return self.take_wrong_address()
        if line == "wrong data":
            return self.take_wrong_data()
        return self.take_sector(words)

    def take_length(self, words):
        """Takes the wanted number of bytes."""
        numbers = numbers_of(words)
        if len(numbers) != 1 or None in numbers or numbers[0] > GREATEST_LENGTH:
            return False
        self.length = numbers[0]
        return True

    def take_run(self, words):
        """Takes a run of weak cells."""
        numbers = numbers_of(words)
        if len(numbers) != 2 or None in numbers:
            return False
        self.runs.append(tuple(numbers))
        return True

    def take_wrong_address(self):
        """Takes the fault of an address for the last sector."""
        if not self.sectors or self.sectors[-1].address_wrong:
            return False
        sector = self.sectors[-1]
        sector.address_wrong = True
        return True

    def take_wrong_data(self):
        """Takes the fault of data for the last sector."""
        if not self.sectors or self.sectors[-1].data_wrong or self.sectors[-1].data is None:
            return False
        sector = self.sectors[-1]
        sector.data_wrong = True
        return True

    def take_sector(self, words):
        """Takes a sector."""
        sector = sector_of(words)
        if sector is None or not is_sector(sector):
            return False
        self.sectors.append(sector)
        return True


def numbers_of(words):
    """The numbers that words tell in decimal, None for a word that tells none."""
    return [decimal_number(word, MOST_DIGITS) for word in words]


def sector_of(words):
    """The sector that words tell, or None; its data may be of another number than its size says."""
    address = numbers_of(words[1:5])
    if len(address) != 4 or None in address or not is_sector(Sector(address, None)):
        return None
    if words[0] == "empty" and len(words) == 5:
        return Sector(address, None)
    if len(words) != 6:
        return None
    if words[0] == "sector":
        fill = decimal_number(words[5], MOST_DIGITS)
        return None if fill is None else Sector(address, [fill] * data_length(address[3]))
    data = hex_bytes(words[5]) if words[0] == "data" else None
    return None if data is None else Sector(address, data)


def read_track_text(text):
    """The sectors, the runs of weak cells and the wanted number of bytes that a text tells (point 68)."""
    reader = TrackReader()
    lines = text.split("\n") if text else []
    for at, line in enumerate(lines):
        if not reader.take(line, at + 1):
            raise InvalidLine(at + 1)
    return reader.sectors, reader.runs, reader.length


def sector_lines(sector):
    """The lines that tell a sector and its faults."""
    cylinder, head, number, size = sector.address
    address = f"{cylinder} {head} {number} {size}"
    if sector.data is None:
        lines = [f"empty {address}"]
    elif len(set(sector.data)) == 1:
        lines = [f"sector {address} {sector.data[0]}"]
    else:
        lines = [f"data {address} {hex_text(sector.data)}"]
    if sector.address_wrong:
        lines.append("wrong address")
    # The fault has no meaning without data, and a text with it would not be read.
    if sector.data_wrong and sector.data is not None:
        lines.append("wrong data")
    return lines


def track_text(sectors, runs, length):
    """The text that tells sectors, runs of weak cells and a wanted number of bytes (point 69)."""
    check_sectors(sectors)
    lines = [f"length {length}"] if length != 0 else []
    for sector in sectors:
        lines.extend(sector_lines(sector))
    lines.extend([f"weak {place} {count}" for place, count in runs])
    return "\n".join(lines)


def sectors_of(cells):
    """The sectors that are found in the cells of a track, with their faults (point 69)."""
    sectors = []
    for _, address, address_good, data, data_good in found_sectors(cells):
        data_wrong = data is not None and not data_good
        sectors.append(Sector(address, data, address_wrong=not address_good, data_wrong=data_wrong))
    return sectors
