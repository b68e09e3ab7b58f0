"""Test reads: jitter, other speeds and scratches (points 57 and 58)."""

from discwright.errors import InvalidRead
from discwright.flux import Read

GREATEST_PART = 1000


def jittered(read, amounts):
    """The read with amounts added to its intervals, again and again from the first amount on."""
    intervals = [ticks + amounts[at % len(amounts)] for at, ticks in enumerate(read.intervals)]
    return Read(intervals, read.rest)


def scaled(ticks, p, q):
    """Ticks times p / q, rounded."""
    return (2 * ticks * p + q) // (2 * q)


def at_speed(read, p, q):
    """The read with all times multiplied by p / q."""
    if not 1 <= p <= GREATEST_PART or not 1 <= q <= GREATEST_PART:
        raise InvalidRead("a part of a speed is not from 1 to 1000")
    intervals = [max(1, scaled(ticks, p, q)) for ticks in read.intervals]
    return Read(intervals, scaled(read.rest, p, q))


def scratched(read, first, count):
    """The read without the changes behind so many intervals, from the one with a first index on."""
    intervals = list(read.intervals)
    if 0 <= first < len(intervals):
        end = first + count + 1
        intervals = intervals[:first] + [sum(intervals[first:end])] + intervals[end:]
    return Read(intervals, read.rest)
