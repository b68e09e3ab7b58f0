"""Dumps of cartridges: trimmed, with headers and mappers, and merged (points 46 to 49)."""

from discwright.bytework import are_bytes, crc, two_bytes
from discwright.errors import InvalidDump, NoHeader
from discwright.texts import NAME_CHARACTERS, NAME_LENGTH, consists_of, padded_codes, padded_text

LEAST_LENGTH = 16
GREATEST_LENGTH = 65536
FIRST_BYTES = (67, 65, 82, 84)
HEADER_BYTES = 16
BANK_BYTES = 64
MOST_BANKS = 64
# What the kinds of mappers do with a byte that is written: nothing, or change a slot.
FIXED = 0
UPPER_SLOT = 1
BOTH_SLOTS = 2


def powers_up_to(length):
    """The powers of 2 that may be the length of a dump, up to a length."""
    return [2 ** count for count in range(4, 17) if 2 ** count <= length]


def repeated_length(dump):
    """The smallest power of 2 such that a dump consists of repetitions of its first so many bytes."""
    for length in powers_up_to(len(dump)):
        if dump[:length] * (len(dump) // length) == dump:
            return length
    return len(dump)


def length_of(dump):
    """The true length of a dump, or of a half of one."""
    length = repeated_length(dump)
    half = len(dump) // 2
    if length < len(dump) or half < LEAST_LENGTH:
        return length
    second = length_of(dump[half:])
    return half + second if second < half else length


def true_length(dump):
    """The true length of a dump (point 46)."""
    if len(dump) not in powers_up_to(GREATEST_LENGTH):
        raise InvalidDump("the length of a dump is not a power of 2 from 16 to 65536")
    return length_of(dump)


def trimmed(dump):
    """The bytes of a dump up to its true length."""
    return dump[:true_length(dump)]


class Cartridge:
    """A cartridge with a header (point 47): its banks, the kind of its mapper and its title."""

    def __init__(self, values):
        if len(values) < HEADER_BYTES or values[:4] != list(FIRST_BYTES) or not are_bytes(values):
            raise NoHeader("the bytes do not begin as a cartridge does")
        count, kind = values[4], values[5]
        content = values[HEADER_BYTES:]
        title = padded_text(values[8:HEADER_BYTES])
        if not 1 <= count <= MOST_BANKS or not FIXED <= kind <= BOTH_SLOTS or title is None:
            raise NoHeader("the number of the banks, the kind of the mapper or the title is not right")
        if len(content) != count * BANK_BYTES or values[6:8] != two_bytes(crc(content)):
            raise NoHeader("the bytes behind the header have another number or another CRC")
        self.banks = tuple([tuple(content[at:at + BANK_BYTES]) for at in range(0, len(content), BANK_BYTES)])
        self.kind = kind
        self.title = title


def is_bank(bank):
    """True if these are the bytes of a bank."""
    return len(bank) == BANK_BYTES and are_bytes(bank)


def make_cartridge(kind, title, banks):
    """The bytes of a cartridge with its header."""
    if not FIXED <= kind <= BOTH_SLOTS or not 1 <= len(banks) <= MOST_BANKS:
        raise NoHeader("the kind of the mapper or the number of the banks is out of range")
    if len(title) > NAME_LENGTH or not consists_of(title, NAME_CHARACTERS + " "):
        raise NoHeader("the title is too long, or has a character that is not allowed")
    if not all([is_bank(bank) for bank in banks]):
        raise NoHeader("a bank has a wrong number of bytes, or a value that is no byte")
    content = [value for bank in banks for value in bank]
    header = list(FIRST_BYTES) + [len(banks), kind] + two_bytes(crc(content)) + padded_codes(title)
    return header + content


class Mapper:
    """What a cartridge shows in its two slots (point 48)."""

    def __init__(self, cartridge):
        self._banks = cartridge.banks
        self._kind = cartridge.kind
        # The lower slot and the upper one, by the indexes of the banks that they show.
        self._shown = [0, len(cartridge.banks) - 1]

    def peek(self, address):
        """The byte that is shown at an address."""
        return self._banks[self._shown[address // BANK_BYTES]][address % BANK_BYTES]

    def poke(self, address, value):
        """Writes a byte to an address."""
        if self._kind != FIXED:
            slot = 1 if self._kind == UPPER_SLOT else address // BANK_BYTES
            self._shown[slot] = value % len(self._banks)


def merged_byte(values):
    """The byte that stands more often among some than any other, or None if there is none."""
    counts = {}
    for value in values:
        counts[value] = counts.get(value, 0) + 1
    greatest = max([counts[value] for value in counts])
    winners = [value for value in counts if counts[value] == greatest]
    return winners[0] if len(winners) == 1 else None


def merged(dumps):
    """The bytes of several dumps of one cartridge, None where they are not known (point 49)."""
    if not dumps or not all([len(dump) == len(dumps[0]) for dump in dumps]):
        raise InvalidDump("there is no dump, or dumps have different lengths")
    return [merged_byte([dump[at] for dump in dumps]) for at in range(len(dumps[0]))]
