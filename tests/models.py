"""Plain models of the document's steps, against which the program is tested."""


def model_crc(values):
    """Point 3, bit by bit."""
    number = 65535
    for value in values:
        for weight in (128, 64, 32, 16, 8, 4, 2, 1):
            taken = number // 32768
            number = number * 2 % 65536
            if taken != value // weight % 2:
                number = number ^ 4129
    return number


def model_bits(values):
    return [int(digit) for value in values for digit in format(value, "08b")]


def model_mfm(values, before=0):
    """Point 10, bit by bit."""
    cells = []
    for bit in model_bits(values):
        cells.append(1 if (before, bit) == (0, 0) else 0)
        cells.append(bit)
        before = bit
    return cells


MODEL_MARK = [0, 1, 0, 0, 0, 1, 0, 0, 1, 0, 0, 0, 1, 0, 0, 1]
MODEL_MARKS = MODEL_MARK * 3


def model_field(values, wrong=False):
    """Bytes 0, marks, bytes and their CRC, as point 13 writes them behind a gap."""
    check = model_crc([161, 161, 161] + values)
    if wrong:
        check = check ^ 1
    return model_mfm([0] * 6) + MODEL_MARKS + model_mfm(values + [check // 256, check % 256], 1)


def model_number(number):
    """Point 19: a number in digits of the base 128."""
    digits = [number % 128]
    while number >= 128:
        number = number // 128
        digits.append(number % 128)
    return [128 + digit for digit in digits[:-1]] + digits[-1:]


def with_model_crc(values):
    check = model_crc(values)
    return values + [check // 256, check % 256]
