"""Texts of characters from the space to the tilde, without the percent sign."""

from discwright.errors import BadBytes

CHARACTERS = " !\"#$&'()*+,-./0123456789:;<=>?@ABCDEFGHIJKLMNOPQRSTUVWXYZ[\\]^_`abcdefghijklmnopqrstuvwxyz{|}~"


def is_plain_text(text):
    """True if all characters of a text are allowed."""
    return all([character in CHARACTERS for character in text])


def text_codes(text):
    """The codes of the characters of a text."""
    return [ord(character) for character in text]


def codes_text(codes):
    """The text with these codes; raises BadBytes for the code of a character that is not allowed."""
    by_code = {ord(character): character for character in CHARACTERS}
    if not all([code in by_code for code in codes]):
        raise BadBytes("a character of a text is not allowed")
    return "".join([by_code[code] for code in codes])
