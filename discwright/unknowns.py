"""Unknown bits of bytes whose CRC is known (point 41)."""

from discwright.bytework import bits_byte, byte_bits, crc, exclusive
from discwright.errors import InvalidUnknowns

MOST_UNKNOWN = 24
POLYNOMIAL = 4129
# Doubling as the CRC does gives each number again after so many steps.
PERIOD = 32767


def doubled(number):
    """A change of the CRC after one more bit that is the same."""
    return exclusive(2 * number % 65536, POLYNOMIAL if number >= 32768 else 0)


def crc_change(length, place):
    """The number by which the CRC of bytes of a length changes if the bit at a place is changed."""
    number = POLYNOMIAL
    for _ in range((8 * length - 1 - place) % PERIOD):
        number = doubled(number)
    return number


def crc_changes(length):
    """The numbers of all places of bytes of a length, by which their CRC changes."""
    numbers = []
    number = POLYNOMIAL
    for _ in range(8 * length):
        numbers.append(number)
        number = doubled(number)
    return numbers[::-1]


def with_bits_changed(values, places):
    """Bytes of which the bits at some places are changed."""
    result = list(values)
    for place in places:
        result[place // 8] = exclusive(result[place // 8], 128 >> (place % 8))
    return result


def with_bits_cleared(values, places):
    """Bytes of which the bits at some places are 0."""
    result = list(values)
    for place in places:
        bits = byte_bits(result[place // 8])
        bits[place % 8] = 0
        result[place // 8] = bits_byte(bits)
    return result


def check_unknown(values, unknown):
    """Raises InvalidUnknowns if places of unknown bits are not valid."""
    if len(unknown) > MOST_UNKNOWN or not all([0 <= place < 8 * len(values) for place in unknown]):
        raise InvalidUnknowns("there are too many unknown bits, or a place is out of range")
    if not all([place < other for place, other in zip(unknown, unknown[1:])]):
        raise InvalidUnknowns("the places of unknown bits do not ascend")


def reduced(row, basis):
    """What is left of a row when all rows of a basis are taken out of it that can be.

    A row is a pair of a change of the CRC and the number of the unknown bits that together give it. The basis has
    for each of its rows the number of bits of its change.
    """
    change, chosen = row
    while change.bit_length() in basis:
        other = basis[change.bit_length()]
        change, chosen = change ^ other[0], chosen ^ other[1]
    return change, chosen


def solved(values, unknown, wanted):
    """The number of solutions, and the places of the bits that are 1 in one of them."""
    check_unknown(values, unknown)
    basis = {}
    for at, place in enumerate(unknown):
        row = reduced((crc_change(len(values), place), 1 << at), basis)
        if row[0] != 0:
            basis[row[0].bit_length()] = row
    difference = exclusive(crc(with_bits_cleared(values, unknown)), wanted)
    left, chosen = reduced((difference, 0), basis)
    if left != 0:
        return 0, []
    return 1 << (len(unknown) - len(basis)), [place for at, place in enumerate(unknown) if (chosen >> at) & 1 == 1]


def solution_count(values, unknown, wanted):
    """How many ways there are to set the unknown bits so that the CRC is the wanted one."""
    return solved(values, unknown, wanted)[0]


def solution(values, unknown, wanted):
    """The bytes with the wanted CRC if there is exactly one way to set the unknown bits, otherwise None."""
    count, places = solved(values, unknown, wanted)
    if count != 1:
        return None
    return with_bits_changed(with_bits_cleared(values, unknown), places)
