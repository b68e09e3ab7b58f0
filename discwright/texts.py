"""Texts of certain characters and their codes: notes, names of files, titles."""

from discwright.errors import BadBytes

CHARACTERS = " !\"#$&'()*+,-./0123456789:;<=>?@ABCDEFGHIJKLMNOPQRSTUVWXYZ[\\]^_`abcdefghijklmnopqrstuvwxyz{|}~"
NAME_CHARACTERS = "ABCDEFGHIJKLMNOPQRSTUVWXYZ0123456789"
NAME_LENGTH = 8
DIGITS = "0123456789"
HEX_DIGITS = "0123456789abcdef"


def consists_of(text, characters):
    """True if all characters of a text are among some."""
    return all([character in characters for character in text])


def is_plain_text(text):
    """True if all characters of a text are from the space to the tilde, without the percent sign."""
    return consists_of(text, CHARACTERS)


def is_name(text):
    """True if a text is a name of a file: one to eight upper-case letters and digits."""
    return 1 <= len(text) <= NAME_LENGTH and consists_of(text, NAME_CHARACTERS)


def decimal_number(word, most):
    """The number that a word tells in decimal, without leading zeros and with at most so many digits, or None."""
    if not 1 <= len(word) <= most or not consists_of(word, DIGITS):
        return None
    if word[0] == "0" and len(word) > 1:
        return None
    return int(word)


def hex_text(values):
    """Bytes in two hexadecimal digits each, one behind the other."""
    return "".join([f"{value:02x}" for value in values])


def hex_bytes(word):
    """The bytes that a word tells in two hexadecimal digits each, or None."""
    if len(word) % 2 != 0 or not consists_of(word, HEX_DIGITS):
        return None
    digits = [HEX_DIGITS.index(digit) for digit in word]
    return [16 * high + low for high, low in zip(digits[0::2], digits[1::2])]


def text_codes(text):
    """The codes of the characters of a text."""
    return [ord(character) for character in text]


def decoded(codes, characters):
    """The text with these codes, or None if one is the code of none of some characters."""
    by_code = {ord(character): character for character in characters}
    if not all([code in by_code for code in codes]):
        return None
    return "".join([by_code[code] for code in codes])


def codes_text(codes):
    """The text with these codes; raises BadBytes for the code of a character that is not allowed in notes."""
    text = decoded(codes, CHARACTERS)
    if text is None:
        raise BadBytes("a character of a text is not allowed")
    return text


def padded_codes(text):
    """The codes of a text that is filled up with spaces to the length of a name."""
    return text_codes(text.ljust(NAME_LENGTH))


def padded_text(codes):
    """The text of upper-case letters, digits and spaces with these codes, without the spaces at its end, or None."""
    text = decoded(codes, NAME_CHARACTERS + " ")
    return None if text is None else text.rstrip(" ")


def padded_name(codes):
    """The name of a file that is filled up with spaces and has these codes, or None if it is none."""
    text = padded_text(codes)
    return text if text is not None and is_name(text) else None
