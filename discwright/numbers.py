"""Numbers in digits of the base 128 (point 19)."""

from discwright.errors import BadBytes


def write_number(number):
    """The bytes of a number, the lowest digit first."""
    values = []
    while number > 127:
        values.append(128 + number % 128)
        number = number // 128
    values.append(number)
    return values


def read_number(values, at):
    """The number that begins at an index and the index behind it."""
    if at < 0:
        raise BadBytes("no number begins before the bytes")
    end = at
    while end < len(values) and values[end] > 127:
        end += 1
    if end >= len(values):
        raise BadBytes("the bytes end before a number does")
    if end > at and values[end] == 0:
        raise BadBytes("the last digit of a number is a needless 0")
    number = 0
    for digit in reversed(values[at:end + 1]):
        number = number * 128 + digit % 128
    return number, end + 1
