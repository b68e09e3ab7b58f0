"""Images of discs, and their bytes (points 18 to 21)."""

from discwright.bytework import are_bytes, crc, two_bytes
from discwright.errors import BadBytes, InvalidImage, InvalidRead
from discwright.flux import MOST_INTERVALS, Read, is_cell
from discwright.numbers import read_number, write_number
from discwright.texts import codes_text, is_plain_text, text_codes

FIRST_BYTES = (68, 87, 73)
LONGEST_NOTE = 200
MOST_READS = 20
MOST_TRACKS = 200
FARTHEST_BACK = 60


class Image:
    """An image of a disc: the length of a cell, a note, and the reads of the tracks."""

    def __init__(self, cell, note, tracks):
        if not is_cell(cell):
            raise InvalidImage("the length of a cell is out of range")
        if len(note) > LONGEST_NOTE or not is_plain_text(note):
            raise InvalidImage("the note is too long, or has a character that is not allowed")
        if not all([is_place(place) and 1 <= len(tracks[place]) <= MOST_READS for place in tracks]):
            raise InvalidImage("the place of a track or the number of its reads is out of range")
        self.cell = cell
        self.note = note
        self._tracks = {place: list(tracks[place]) for place in tracks}

    def __eq__(self, other):
        return (
            isinstance(other, Image) and self.cell == other.cell and self.note == other.note
            and self._tracks == other._tracks
        )

    def places(self):
        """The ascending list of the pairs of cylinder and head that have a track."""
        return sorted(self._tracks)

    def reads(self, place):
        """The list of the reads of a track, empty if there is none."""
        return list(self._tracks.get(place, ()))


def is_place(place):
    """True if a pair is a cylinder and a head of an image."""
    return 0 <= place[0] <= 99 and 0 <= place[1] <= 1


def packed_intervals(intervals):
    """The bytes of intervals (point 20)."""
    values = []
    newest = {}
    for at, ticks in enumerate(intervals):
        back = at - newest.get(ticks, at - FARTHEST_BACK - 1)
        if back <= FARTHEST_BACK:
            values.extend(write_number(2 * back))
        else:
            values.extend(write_number(2 * ticks + 1))
        newest[ticks] = at
    return values


def unpacked_intervals(numbers):
    """The intervals that packed numbers stand for, however far these go back."""
    intervals = []
    for number in numbers:
        back = number // 2
        if number % 2 == 1:
            intervals.append(number // 2)
        elif 1 <= back <= len(intervals):
            intervals.append(intervals[-back])
        else:
            raise BadBytes("an interval goes back too far")
    return intervals


def head_part(cell, note, count):
    """The bytes that stand before the first track, without their CRC."""
    values = list(FIRST_BYTES) + write_number(cell)
    return values + write_number(len(note)) + text_codes(note) + write_number(count)


def track_part(place, reads):
    """The bytes of a track, without their CRC."""
    values = write_number(place[0]) + write_number(place[1]) + write_number(len(reads))
    for read in reads:
        values.extend(write_number(len(read.intervals)))
        values.extend(packed_intervals(read.intervals))
        values.extend(write_number(read.rest))
    return values


def with_crc(part):
    """A part of an image with its CRC behind it."""
    return part + two_bytes(crc(part))


def image_bytes(image):
    """The bytes of an image (point 19)."""
    places = image.places()
    values = with_crc(head_part(image.cell, image.note, len(places)))
    for place in places:
        values.extend(with_crc(track_part(place, image.reads(place))))
    return values


def crc_follows(values, start, end):
    """True if the right CRC of the bytes of a part stands behind them."""
    if end + 2 > len(values):
        raise BadBytes("the bytes end before a CRC does")
    return values[end:end + 2] == two_bytes(crc(values[start:end]))


def read_head(values):
    """The length of a cell and the note, whatever they are, the number of tracks and the index behind the CRC."""
    if values[:3] != list(FIRST_BYTES):
        raise BadBytes("the bytes do not begin as an image does")
    cell, at = read_number(values, 3)
    length, at = read_number(values, at)
    note = codes_text(values[at:at + length])
    count, end = read_number(values, at + length)
    if count > MOST_TRACKS or not crc_follows(values, 0, end):
        raise BadBytes("what stands before the first track is not right")
    return cell, note, count, end + 2


def scanned_read(values, at):
    """The numbers of a read, the packed intervals and the rest, whatever they say, and the index behind them."""
    count, at = read_number(values, at)
    if count > MOST_INTERVALS:
        raise BadBytes("a read has too many intervals")
    numbers = []
    for _ in range(count + 1):
        number, at = read_number(values, at)
        numbers.append(number)
    return numbers, at


def scanned_track(values, at):
    """The place of a track, the numbers of its reads, whatever they say, and the index behind them."""
    cylinder, at = read_number(values, at)
    head, at = read_number(values, at)
    count, at = read_number(values, at)
    if not 1 <= count <= MOST_READS:
        raise BadBytes("the number of the reads of a track is out of range")
    reads = []
    for _ in range(count):
        numbers, at = scanned_read(values, at)
        reads.append(numbers)
    return (cylinder, head), reads, at


def read_of(numbers):
    """The read that its numbers stand for."""
    try:
        return Read(unpacked_intervals(numbers[:-1]), numbers[-1])
    except InvalidRead:
        raise BadBytes("an interval or a rest is out of range")


def read_tracks(values, at, count):
    """The right tracks of the bytes behind an index, a dict, and the places of the damaged ones, a list."""
    tracks = {}
    damaged = []
    last = (-1, 0)
    for _ in range(count):
        start = at
        place, scanned, end = scanned_track(values, start)
        at = end + 2
        if not crc_follows(values, start, end):
            damaged.append(place)
            continue
        reads = [read_of(numbers) for numbers in scanned]
        # Bytes of the right form are just those that writing gives: this sees intervals that are
        # not packed as they must be.
        if place <= last or track_part(place, reads) != values[start:end]:
            raise BadBytes("a track is out of order or wrong in its form")
        tracks[place] = reads
        last = place
    if at != len(values):
        raise BadBytes("there are bytes behind the last track")
    return tracks, damaged


def read_image(values):
    """The image that bytes give, and the places of damaged tracks (point 21)."""
    if not are_bytes(values):
        raise BadBytes("a value is no byte")
    cell, note, count, at = read_head(values)
    tracks, damaged = read_tracks(values, at, count)
    try:
        return Image(cell, note, tracks), sorted(set(damaged))
    except InvalidImage:
        raise BadBytes("the length of a cell, the note or the place of a track breaks point 18")
