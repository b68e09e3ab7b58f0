"""FM, MFM and the group code: bytes as cells, and back (points 10 to 12)."""

from discwright.bytework import bits_byte, byte_bits

GROUP_CODES = (9, 10, 11, 13, 14, 15, 18, 19, 21, 22, 23, 25, 26, 27, 29, 30)


def all_bits(values):
    """The bits of all bytes, one behind the other."""
    bits = []
    for value in values:
        bits.extend(byte_bits(value))
    return bits


def bytes_of_bits(bits):
    """The bytes of bits, whose number is a multiple of 8."""
    return [bits_byte(bits[at:at + 8]) for at in range(0, len(bits), 8)]


def whole_bytes(cells, count):
    """The cells up to the end of the last whole byte, for a number of cells of a byte."""
    return cells[:len(cells) // count * count]


def fm_cells(values):
    """The cells of bytes in FM."""
    cells = []
    for bit in all_bits(values):
        cells.extend([1, bit])
    return cells


def read_fm(cells):
    """The bytes of cells in FM, and the faults."""
    whole = whole_bytes(cells, 16)
    faults = [at for at, clock in enumerate(whole[0::2]) if clock != 1]
    return bytes_of_bits(whole[1::2]), faults


def mfm_clock(last, bit):
    """The clock that MFM writes between two bits."""
    return 1 if last == 0 and bit == 0 else 0


def mfm_cells(values, *, before=0):
    """The cells of bytes in MFM behind a given bit."""
    cells = []
    last = before
    for bit in all_bits(values):
        cells.extend([mfm_clock(last, bit), bit])
        last = bit
    return cells


def read_mfm(cells, *, before=0):
    """The bytes of cells in MFM behind a given bit, and the faults."""
    whole = whole_bytes(cells, 16)
    bits = whole[1::2]
    faults = []
    last = before
    for at, clock in enumerate(whole[0::2]):
        if clock != mfm_clock(last, bits[at]):
            faults.append(at)
        last = bits[at]
    return bytes_of_bits(bits), faults


def gcr_code(number):
    """The five cells of a number from 0 to 15 in the group code."""
    return byte_bits(GROUP_CODES[number])[3:]


def gcr_cells(values):
    """The cells of bytes in the group code."""
    cells = []
    for value in values:
        cells.extend(gcr_code(value // 16))
        cells.extend(gcr_code(value % 16))
    return cells


def read_gcr(cells):
    """The bytes of cells in the group code, and the faults."""
    whole = whole_bytes(cells, 10)
    numbers = []
    faults = []
    for index in range(len(whole) // 5):
        code = bits_byte(whole[5 * index:5 * index + 5])
        if code in GROUP_CODES:
            numbers.append(GROUP_CODES.index(code))
        else:
            numbers.append(0)
            faults.append(index)
    values = [16 * high + low for high, low in zip(numbers[0::2], numbers[1::2])]
    return values, faults
