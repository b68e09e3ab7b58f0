"""An archive of items with a sealed log of what was done (points 54 to 56)."""

from discwright.bytework import are_bytes, crc
from discwright.errors import InvalidItem
from discwright.texts import decimal_number, is_name, is_plain_text, text_codes

MOST_ITEM_BYTES = 60000
GREATEST_CRC = 65535
LONGEST_NOTE = 100
# The CRC and the length of an item have at most five digits.
MOST_DIGITS = 5
FIRST_SEAL = "00000"


class Archive:
    """Items by their names, with a log."""

    def __init__(self):
        self._items = {}
        self._lines = []

    def put(self, name, values):
        """Keeps an item under a name that is not there yet."""
        if not is_name(name) or name in self._items:
            raise InvalidItem("the name is not valid, or is there already")
        if len(values) > MOST_ITEM_BYTES or not are_bytes(values):
            raise InvalidItem("the item has too many bytes, or a value that is no byte")
        self._items[name] = list(values)
        self._log(f"put {name} {crc(values)} {len(values)}")

    def drop(self, name):
        """Takes an item out."""
        self._check_there(name)
        del self._items[name]
        self._log(f"drop {name}")

    def note(self, text):
        """Puts a note into the log."""
        if not is_note(text):
            raise InvalidItem("the note is empty or too long, or has a character that is not allowed")
        self._log(f"note {text}")

    def names(self):
        """The ascending list of the names."""
        return sorted(self._items)

    def item(self, name):
        """The list of the bytes of an item."""
        self._check_there(name)
        return list(self._items[name])

    def log(self):
        """The list of the lines of the log."""
        return list(self._lines)

    def _check_there(self, name):
        """Raises InvalidItem if there is no item with a name."""
        if name not in self._items:
            raise InvalidItem("there is no item with this name")

    def _log(self, text):
        """Puts the line of an entry at the end of the log."""
        last = seal_of(self._lines[-1]) if self._lines else FIRST_SEAL
        self._lines.append(sealed(text, last))


class LogState:
    """What the right lines of a log tell, as far as they are taken."""

    def __init__(self):
        self.count = 0
        # The pairs of the CRC and the length of the items that are there, by name.
        self.told = {}
        self._seal = FIRST_SEAL

    def take(self, line):
        """Takes the next line, if it is right; True if it is."""
        text = entry_text(line)
        if line != sealed(text, self._seal) or not self._take_entry(text):
            return False
        self._seal = seal_of(line)
        self.count += 1
        return True

    def _take_entry(self, text):
        """Takes the text of an entry, if it is right; True if it is."""
        words = text.split(" ")
        if is_put(words) and words[1] not in self.told:
            self.told[words[1]] = (int(words[2]), int(words[3]))
            return True
        # A name that is there is of the right form.
        if len(words) == 2 and words[0] == "drop" and words[1] in self.told:
            del self.told[words[1]]
            return True
        return words[0] == "note" and is_note(text[5:])


def is_note(text):
    """True if a text may be a note."""
    return 1 <= len(text) <= LONGEST_NOTE and is_plain_text(text)


def is_number_up_to(word, greatest):
    """True if a word is a number of an entry, from 0 to a greatest one."""
    number = decimal_number(word, MOST_DIGITS)
    return number is not None and number <= greatest


def is_put(words):
    """True if words are those of an entry that puts an item."""
    if len(words) != 4 or words[0] != "put" or not is_name(words[1]):
        return False
    return is_number_up_to(words[2], GREATEST_CRC) and is_number_up_to(words[3], MOST_ITEM_BYTES)


def sealed(text, last):
    """The line of an entry's text behind a line with the last seal."""
    return f"{text} {crc(text_codes(last + text)):05d}"


def entry_text(line):
    """The text of an entry, which stands before the space and the seal of its line."""
    return line[:-6]


def seal_of(line):
    """The seal of a line."""
    return line[-5:]


def log_state(lines):
    """What the lines of a log tell, up to the first one that is not right."""
    state = LogState()
    for line in lines:
        if not state.take(line):
            break
    return state


def right_lines(lines):
    """The number of lines up to the first one that is not right (point 55)."""
    return log_state(lines).count


def audit(items, lines):
    """The ascending lists of the names that are missing, extra and changed (point 56)."""
    told = log_state(lines).told
    missing = sorted([name for name in told if name not in items])
    extra = sorted([name for name in items if name not in told])
    both = sorted([name for name in told if name in items])
    return missing, extra, [name for name in both if told[name] != (crc(items[name]), len(items[name]))]
