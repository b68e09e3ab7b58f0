"""Patches of lists of bytes, after IPS and BPS (points 50 to 53)."""

from discwright.bytework import are_bytes, crc, two_bytes
from discwright.errors import BadBytes, DifferentLengths, DoesNotFit, InvalidPatch
from discwright.numbers import read_number, write_number
from discwright.runs import runs_of

FIRST_BYTES = (80, 65)
MOST_CHANGES = 500


class Patch:
    """A list of changes, tuples of an offset, old bytes and new bytes (point 50)."""

    def __init__(self, changes):
        if len(changes) > MOST_CHANGES:
            raise InvalidPatch("there are too many changes")
        least = 0
        for offset, old, new in changes:
            if offset < least:
                raise InvalidPatch("an offset is below 0, or no byte lies between two changes")
            if not are_bytes(old) or not are_bytes(new) or tuple(old) == tuple(new):
                raise InvalidPatch("the old and the new bytes of a change are no bytes, or equal")
            least = offset + len(old) + 1
        self.changes = tuple([(offset, tuple(old), tuple(new)) for offset, old, new in changes])

    def __eq__(self, other):
        return isinstance(other, Patch) and self.changes == other.changes

    def apply(self, values):
        """The bytes that a list becomes by the patch."""
        result = []
        end = 0
        for index, (offset, old, new) in enumerate(self.changes):
            if offset > len(values) or tuple(values[offset:offset + len(old)]) != old:
                raise DoesNotFit(index)
            result.extend(values[end:offset] + list(new))
            end = offset + len(old)
        return result + values[end:]

    def opposite(self):
        """The patch that takes this one back."""
        changes = []
        shift = 0
        for offset, old, new in self.changes:
            changes.append((offset + shift, new, old))
            shift += len(new) - len(old)
        return Patch(changes)


def common_beginning(first, second):
    """The length of the longest common beginning of two lists."""
    for at, (one, other) in enumerate(zip(first, second)):
        if one != other:
            return at
    return min(len(first), len(second))


def difference(first, second):
    """The patch with one change between the longest common beginning and end of two lists (point 51)."""
    if first == second:
        return Patch([])
    start = common_beginning(first, second)
    old, new = first[start:], second[start:]
    end = common_beginning(old[::-1], new[::-1])
    return Patch([(start, tuple(old[:len(old) - end]), tuple(new[:len(new) - end]))])


def fine_difference(first, second):
    """The patch with one change for each run of places at which two lists of one length differ."""
    if len(first) != len(second):
        raise DifferentLengths("the lists have different lengths")
    places = [at for at, (one, other) in enumerate(zip(first, second)) if one != other]
    runs = [(start, start + count) for start, count in runs_of(places)]
    return Patch([(start, tuple(first[start:end]), tuple(second[start:end])) for start, end in runs])


def patch_bytes(patch):
    """The bytes of a patch (point 53)."""
    values = list(FIRST_BYTES) + write_number(len(patch.changes))
    end = 0
    for offset, old, new in patch.changes:
        values.extend(write_number(offset - end) + write_number(len(old)) + write_number(len(new)))
        values.extend(list(old) + list(new))
        end = offset + len(old)
    return values + two_bytes(crc(values))


def taken_bytes(values, at, count):
    """So many bytes from an index on and the index behind them; raises BadBytes if they are not there."""
    if at + count > len(values):
        raise BadBytes("the bytes end before a change does")
    return tuple(values[at:at + count]), at + count


def read_changes(values):
    """The changes of a patch that bytes without their CRC tell, whatever they are."""
    count, at = read_number(values, len(FIRST_BYTES))
    if count > MOST_CHANGES:
        raise BadBytes("there are too many changes")
    changes = []
    end = 0
    for _ in range(count):
        between, at = read_number(values, at)
        old_count, at = read_number(values, at)
        new_count, at = read_number(values, at)
        old, at = taken_bytes(values, at, old_count)
        new, at = taken_bytes(values, at, new_count)
        changes.append((end + between, old, new))
        end = end + between + old_count
    if at != len(values):
        raise BadBytes("there are bytes behind the last change")
    return changes


def read_patch(values):
    """The patch that bytes give."""
    part = values[:-2]
    if not are_bytes(values) or part[:2] != list(FIRST_BYTES) or values[-2:] != two_bytes(crc(part)):
        raise BadBytes("the bytes do not begin as a patch does, or their CRC is wrong")
    try:
        return Patch(read_changes(part))
    except InvalidPatch:
        raise BadBytes("the changes break point 50")
