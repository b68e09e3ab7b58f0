"""The older form of images, and migrating it (point 70)."""

from discwright.bytework import are_bytes, number_of, two_bytes
from discwright.errors import BadBytes, InvalidImage, InvalidRead
from discwright.flux import Read
from discwright.images import Image, image_bytes, read_image
from discwright.texts import codes_text, text_codes

FIRST_BYTES = (68, 87, 48)


def three_bytes(number):
    """The three bytes of a number, the highest one first."""
    return [number // 65536] + two_bytes(number % 65536)


def read_bytes(read):
    """The bytes of a read in the older form."""
    values = two_bytes(len(read.intervals))
    for ticks in read.intervals:
        values.extend(three_bytes(ticks))
    return values + three_bytes(read.rest)


def old_bytes(image):
    """The bytes of an image in the older form."""
    places = image.places()
    values = list(FIRST_BYTES) + two_bytes(image.cell) + [len(image.note)] + text_codes(image.note) + [len(places)]
    for place in places:
        reads = image.reads(place)
        values.extend([place[0], place[1], len(reads)])
        for read in reads:
            values.extend(read_bytes(read))
    return values


def taken(values, at, count):
    """So many bytes from an index on, and the index behind them."""
    if at + count > len(values):
        raise BadBytes("the bytes end too early")
    return values[at:at + count], at + count


def number_at(values, at, count):
    """The number of so many bytes from an index on, and the index behind them."""
    part, at = taken(values, at, count)
    return number_of(part), at


def read_at(values, at):
    """The read that begins at an index, and the index behind it."""
    count, at = number_at(values, at, 2)
    ticks = []
    for _ in range(count + 1):
        number, at = number_at(values, at, 3)
        ticks.append(number)
    return Read(ticks[:-1], ticks[-1]), at


def track_at(values, at):
    """The place and the reads of the track that begins at an index, and the index behind it."""
    (cylinder, head, count), at = taken(values, at, 3)
    reads = []
    for _ in range(count):
        read, at = read_at(values, at)
        reads.append(read)
    return (cylinder, head), reads, at


def image_in(values):
    """The image that bytes give; raises InvalidRead or InvalidImage if a part of it breaks point 5 or 18."""
    if not are_bytes(values) or values[:3] != list(FIRST_BYTES):
        raise BadBytes("a value is no byte, or the bytes do not begin as the older form does")
    cell, at = number_at(values, 3, 2)
    length, at = number_at(values, at, 1)
    codes, at = taken(values, at, length)
    count, at = number_at(values, at, 1)
    tracks = {}
    last = (-1, 0)
    for _ in range(count):
        place, reads, at = track_at(values, at)
        if place <= last:
            raise BadBytes("the places of the tracks do not ascend")
        tracks[place] = reads
        last = place
    if at != len(values):
        raise BadBytes("there are bytes behind the last track")
    return Image(cell, codes_text(codes), tracks)


def read_old(values):
    """The image that bytes of the older form give."""
    try:
        return image_in(values)
    except (InvalidRead, InvalidImage):
        raise BadBytes("a read breaks point 5, or the image breaks point 18")


def migrated(values):
    """The bytes of the other form for the same image."""
    if values[:3] == list(FIRST_BYTES):
        return image_bytes(read_old(values))
    image, damaged = read_image(values)
    if damaged:
        raise BadBytes("a track is damaged")
    return old_bytes(image)
