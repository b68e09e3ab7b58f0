"""Reports on images, and tasks of questions about them (points 63 and 64)."""

from discwright.blockdiscs import BlockDisc, check_geometry, taken_blocks, track_addresses, track_places
from discwright.conversion import NONE, file_values, files_read, kind_of
from discwright.errors import InvalidDisc, InvalidTask
from discwright.protection import features
from discwright.texts import decimal_number, hex_text
from discwright.tracks import Sector, data_length, track_bytes

MOST_DIGITS = 4
BAD_LINE = "bad line"
NO_FILE = "no file"


def joined(values, between):
    """The texts of some numbers with a text between them."""
    return between.join([str(value) for value in values])


def wanted_cells(geometry):
    """The number of cells of a track with all sectors of a geometry, each with data."""
    data = [0] * data_length(geometry[3])
    return 16 * track_bytes([Sector(address, data) for address in track_addresses((0, 0), geometry)])


def feature_line(feature):
    """The line on a feature of a track."""
    words = [joined(part, ",") if isinstance(part, tuple) else str(part) for part in feature]
    return joined(["feature"] + words, " ")


def track_lines(image, place, blocks, wanted):
    """The lines on a track with these blocks and a wanted number of cells."""
    reads = image.reads(place)
    good = len([block for block in blocks if block is not None])
    lines = [f"track {place[0]} {place[1]} reads {len(reads)} good {good} bad {len(blocks) - good}"]
    if reads:
        lines.extend([feature_line(feature) for feature in features(place, reads, image.cell, wanted)])
    return lines


def file_line(file):
    """The line on a file that was read."""
    state = "whole" if file.whole else f"damaged {file.damaged}"
    return f"file {file.name} {len(file.data)} {state}"


def disc_if_any(blocks):
    """The block disc with these blocks, or None if all are missing."""
    if all([block is None for block in blocks]):
        return None
    return BlockDisc(blocks)


def file_lines(disc):
    """The lines on the files of a disc, which is None if all blocks are missing."""
    if disc is None:
        return ["no blocks"]
    kind = kind_of(disc)
    lines = [f"files {kind}"]
    if kind != NONE:
        lines.extend([file_line(file) for file in files_read(disc)])
    return lines


def report_lines(image, geometry, blocks):
    """The lines of the report on an image from which these blocks are taken through a geometry."""
    lines = [joined(["disc"] + list(geometry), " ")]
    wanted = wanted_cells(geometry)
    for at, place in enumerate(track_places(geometry)):
        first = at * geometry[2]
        lines.extend(track_lines(image, place, blocks[first:first + geometry[2]], wanted))
    return lines + file_lines(disc_if_any(blocks))


def report(image, geometry):
    """The lines of the report on an image with a geometry (point 63)."""
    return report_lines(image, geometry, taken_blocks(image, geometry))


def task_geometry(line):
    """The geometry that the first line of a task tells; raises InvalidTask."""
    words = line.split(" ")
    numbers = [decimal_number(word, MOST_DIGITS) for word in words[1:]]
    if words[0] != "geometry" or len(numbers) != 4 or None in numbers:
        raise InvalidTask("the first line of a task is not of its form")
    try:
        check_geometry(numbers)
    except InvalidDisc:
        raise InvalidTask("the geometry of a task is not valid")
    return tuple(numbers)


class Task:
    """An image with a geometry, about which questions are asked."""

    def __init__(self, image, geometry):
        self.image = image
        self.geometry = geometry
        self.blocks = taken_blocks(image, geometry)
        self.disc = disc_if_any(self.blocks)

    def reply(self, line):
        """The reply to a line."""
        words = line.split(" ")
        if line == "report":
            return " / ".join(report_lines(self.image, self.geometry, self.blocks))
        if len(words) == 2 and words[0] == "block":
            return self.block_reply(decimal_number(words[1], MOST_DIGITS))
        if len(words) == 2 and words[0] == "file":
            return self.file_reply(words[1])
        return BAD_LINE

    def block_reply(self, number):
        """The reply to the question for a block with a number, which may be none."""
        if number is None or number >= len(self.blocks):
            return BAD_LINE
        block = self.blocks[number]
        return "missing" if block is None else hex_text(block)

    def file_reply(self, name):
        """The reply to the question for a file with a name."""
        values = None if self.disc is None else file_values(self.disc, name)
        if values is None:
            return NO_FILE
        return hex_text(values) if values else "empty"


def run_task(image, text):
    """The replies to the questions of a task (point 64)."""
    lines = text.split("\n")
    task = Task(image, task_geometry(lines[0]))
    return [task.reply(line) for line in lines[1:]]
