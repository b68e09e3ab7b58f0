"""Points 54 to 56: discwright/archives.py."""

import random
import unittest

from discwright.archives import Archive, audit, right_lines
from discwright.errors import DiscError, InvalidItem
from tests.models import model_crc

WRONG_NAMES = ("", "one", "ABCDEFGHI", "A B", " A", "A ", "A-B", "A.B", "ONE\n", "Aa", "_", "A%", "ÄB")
RIGHT_NAMES = ("A", "0", "Z9", "ABCDEFGH", "12345678")
ALL_CHARACTERS = "".join([chr(code) for code in range(32, 127) if code != 37])


def model_seal(text, last):
    """Point 54: the seal of an entry behind a seal."""
    return str(100000 + model_crc([ord(character) for character in last + text]))[1:]


def model_log(texts):
    """The lines of entries, each sealed, whatever they say."""
    lines, last = [], "00000"
    for text in texts:
        last = model_seal(text, last)
        lines.append(text + " " + last)
    return lines


def put_text(name, values):
    return "put " + name + " " + str(model_crc(values)) + " " + str(len(values))


class ArchivesTest(unittest.TestCase):

    def refused(self, call, *arguments):
        with self.assertRaises(DiscError) as caught:
            call(*arguments)
        self.assertIs(type(caught.exception), InvalidItem, arguments)


class ArchiveTest(ArchivesTest):

    def setUp(self):
        self.archive = Archive()
        self.archive.put("TWO", [1, 2, 3])
        self.archive.put("ONE", [])

    def unchanged(self, call, *arguments):
        """The call raises InvalidItem, and changes nothing."""
        before = [self.archive.names(), self.archive.log(), [self.archive.item(name) for name in self.archive.names()]]
        self.refused(call, *arguments)
        after = [self.archive.names(), self.archive.log(), [self.archive.item(name) for name in self.archive.names()]]
        self.assertEqual(after, before)

    def test_without_items(self):
        archive = Archive()
        self.assertEqual([archive.names(), archive.log()], [[], []])
        self.refused(archive.item, "ONE")
        self.refused(archive.drop, "ONE")

    def test_put(self):
        self.assertEqual(self.archive.names(), ["ONE", "TWO"])
        self.assertEqual([self.archive.item("TWO"), self.archive.item("ONE")], [[1, 2, 3], []])
        self.assertIsNone(self.archive.put("A", [0, 255]))
        self.assertEqual(self.archive.names(), ["A", "ONE", "TWO"])
        self.assertEqual(self.archive.item("A"), [0, 255])

    def test_the_order_of_the_names(self):
        archive = Archive()
        for name in ("B", "A1", "10", "9", "AA", "A", "Z"):
            archive.put(name, [7])
        self.assertEqual(archive.names(), ["10", "9", "A", "A1", "AA", "B", "Z"])

    def test_names(self):
        for name in RIGHT_NAMES:
            self.archive.put(name, [5])
            self.assertEqual(self.archive.item(name), [5])
        for name in WRONG_NAMES:
            self.unchanged(self.archive.put, name, [5])
            self.unchanged(self.archive.drop, name)
            self.unchanged(self.archive.item, name)

    def test_a_name_that_is_there(self):
        self.unchanged(self.archive.put, "TWO", [1, 2, 3])
        self.unchanged(self.archive.put, "ONE", [9])

    def test_a_name_that_is_not_there(self):
        self.unchanged(self.archive.drop, "THREE")
        self.unchanged(self.archive.item, "THREE")

    def test_drop(self):
        self.assertIsNone(self.archive.drop("TWO"))
        self.assertEqual(self.archive.names(), ["ONE"])
        self.unchanged(self.archive.item, "TWO")
        self.unchanged(self.archive.drop, "TWO")
        self.archive.put("TWO", [8])
        self.assertEqual(self.archive.item("TWO"), [8])
        self.assertEqual(len(self.archive.log()), 4)

    def test_values_that_are_no_bytes(self):
        for value in (-1, 256, 1000, -(10 ** 29), 10 ** 29):
            for values in ([value], [value, 1, 2], [1, 2, value], [1, value, 2]):
                self.unchanged(self.archive.put, "NEW", values)

    def test_lengths_of_items(self):
        self.archive.put("LONG", [5] * 60000)
        self.assertEqual(self.archive.item("LONG"), [5] * 60000)
        self.assertEqual(self.archive.log()[-1][:-6], put_text("LONG", [5] * 60000))
        self.unchanged(self.archive.put, "LONGER", [5] * 60001)

    def test_an_item_is_copied(self):
        values = [1, 2]
        self.archive.put("NEW", values)
        values.append(3)
        values[0] = 9
        self.archive.item("NEW").append(4)
        self.assertEqual(self.archive.item("NEW"), [1, 2])
        self.assertEqual(right_lines(self.archive.log()), 3)

    def test_what_is_passed_stays(self):
        values = [1, 2]
        self.archive.put("NEW", values)
        self.assertEqual(values, [1, 2])

    def test_returned_lists_are_new(self):
        self.archive.names().append("X")
        self.archive.log().append("X")
        self.archive.log()[0] = "X"
        self.assertEqual(self.archive.names(), ["ONE", "TWO"])
        self.assertEqual(self.archive.log(), model_log([put_text("TWO", [1, 2, 3]), put_text("ONE", [])]))

    def test_notes(self):
        for text in ("a", " ", "  two  spaces  ", "put ONE 1 1", "x" * 100, ALL_CHARACTERS[:90], ALL_CHARACTERS[-90:]):
            self.assertIsNone(self.archive.note(text))
            self.assertEqual(self.archive.log()[-1][:-6], "note " + text)
        self.assertEqual(right_lines(self.archive.log()), 9)
        self.assertEqual(self.archive.names(), ["ONE", "TWO"])

    def test_wrong_notes(self):
        for text in ("", "x" * 101, "%", "100%", "a%b", "a\nb", "\t", "\x7f", "é", "x" * 100 + "%"):
            self.unchanged(self.archive.note, text)

    def test_archives_of_their_own(self):
        other = Archive()
        other.put("X", [1])
        self.assertEqual(self.archive.names(), ["ONE", "TWO"])
        self.assertEqual(len(other.log()), 1)


class LogTest(ArchivesTest):

    def test_the_lines(self):
        archive = Archive()
        archive.put("ONE", [49, 50, 51])
        archive.note("some text ")
        archive.put("A2", [])
        archive.drop("ONE")
        archive.put("ONE", [0])
        texts = ["put ONE 23502 3", "note some text ", "put A2 65535 0", "drop ONE", put_text("ONE", [0])]
        self.assertEqual(archive.log(), model_log(texts))

    def test_the_first_line(self):
        archive = Archive()
        archive.note("x")
        self.assertEqual(archive.log(), ["note x " + model_seal("note x", "00000")])

    def test_seals_have_five_digits(self):
        archive = Archive()
        lines = []
        for number in range(2000):
            archive.note(str(number))
        lines = archive.log()
        self.assertEqual({len(line) - len("note " + str(at)) for at, line in enumerate(lines)}, {6})
        self.assertTrue(any(line[-5:-2] == "000" for line in lines))
        self.assertEqual(lines, model_log(["note " + str(number) for number in range(2000)]))

    def test_a_crc_without_leading_zeros(self):
        """Items whose CRCs have one to five digits."""
        lengths = {}
        for number in range(20000):
            values = [number // 256, number % 256, 7]
            lengths.setdefault(len(str(model_crc(values))), values)
        self.assertEqual(sorted(lengths)[-3:], [3, 4, 5])
        for values in lengths.values():
            archive = Archive()
            archive.put("A", values)
            self.assertEqual(archive.log(), model_log([put_text("A", values)]))
            self.assertEqual(right_lines(archive.log()), 1)


def long_log():
    """An archive of many steps."""
    source = random.Random(54)
    archive = Archive()
    for number in range(120):
        name = source.choice(["A", "B", "C3", "LONGNAME", "9"])
        if source.randrange(4) == 0:
            archive.note("".join(source.choice(ALL_CHARACTERS) for _ in range(source.randrange(1, 101))))
        elif name in archive.names():
            archive.drop(name)
        else:
            archive.put(name, [source.randrange(256) for _ in range(source.randrange(40))])
    return archive


ARCHIVE = long_log()
LINES = ARCHIVE.log()


class RightLinesTest(ArchivesTest):

    def count(self, texts, expected):
        """So many of the lines of these entries, rightly sealed, are right."""
        self.assertEqual(right_lines(model_log(texts)), expected, texts)

    def wrong(self, text):
        """An entry is not right, first or behind others, however it is sealed."""
        self.count([text], 0)
        self.count(["put AB 1 1", "note x", text, "note y"], 2)

    def right(self, text):
        self.count([text], 1)
        self.count(["put AB 1 1", "note x", text, "note y"], 4)

    def test_none(self):
        self.assertEqual(right_lines([]), 0)

    def test_right_logs(self):
        self.assertEqual(right_lines(LINES), 120)
        for count in (1, 2, 50, 119):
            self.assertEqual(right_lines(LINES[:count]), count)

    def test_the_lines_stay(self):
        lines = list(LINES)
        right_lines(lines)
        self.assertEqual(lines, LINES)

    def test_a_line_changed(self):
        for at in (0, 1, 40, 118, 119):
            changed = list(LINES)
            changed[at] = "note changed " + LINES[at][-5:]
            self.assertEqual(right_lines(changed), at)

    def test_a_line_taken_out(self):
        for at in range(119):
            self.assertEqual(right_lines(LINES[:at] + LINES[at + 1:]), at)

    def test_a_line_put_in(self):
        for at in (0, 1, 60, 119, 120):
            text = "note put in"
            last = LINES[at - 1][-5:] if at else "00000"
            line = text + " " + model_seal(text, last)
            count = 121 if at == 120 else at + 1
            self.assertEqual(right_lines(LINES[:at] + [line] + LINES[at:]), count)
            self.assertEqual(right_lines(LINES[:at] + [text + " 12345"] + LINES[at:]), at)

    def test_lines_exchanged(self):
        for first, second in ((0, 1), (0, 119), (5, 6), (118, 119), (30, 90)):
            changed = list(LINES)
            changed[first], changed[second] = changed[second], changed[first]
            self.assertEqual(right_lines(changed), first)

    def test_a_line_doubled(self):
        for at in range(120):
            self.assertEqual(right_lines(LINES[:at + 1] + LINES[at:]), at + 1)

    def test_a_seal_changed(self):
        for at in (0, 60, 119):
            for place in range(-5, 0):
                for sign in "0123456789 a-+":
                    line = LINES[at][:place] + sign + (LINES[at][place + 1:] if place < -1 else "")
                    changed = LINES[:at] + [line] + LINES[at + 1:]
                    self.assertEqual(right_lines(changed), 120 if line == LINES[at] else at)

    def test_forms_of_a_seal(self):
        """A number whose seal begins with zeros, written in other ways."""
        number = [at for at in range(1000) if model_seal("note " + str(at), "00000")[0] == "0"][0]
        text = "note " + str(number)
        seal = model_seal(text, "00000")
        self.assertEqual(right_lines([text + " " + seal]), 1)
        for line in (text + " " + str(int(seal)), text + " 0" + seal, text + "  " + seal[1:], text + seal,
                     text + "  " + seal, text + " " + seal + " ", text, seal, " " + seal, "", text + " +" + seal[1:],
                     text + "-" + seal, text + "0" + seal):
            self.assertEqual(right_lines([line]), 0, line)

    def test_a_seal_behind_other_seals(self):
        """The second seal is made of the first one as a text, with its zeros in front."""
        number = [at for at in range(1000) if model_seal("note " + str(at), "00000")[0] == "0"][0]
        lines = model_log(["note " + str(number), "note x"])
        self.assertEqual(right_lines(lines), 2)
        other = model_seal("note x", str(int(lines[0][-5:])))
        self.assertEqual(right_lines([lines[0], "note x " + other]), 1)
        self.assertEqual(right_lines(["note x " + model_seal("note x", "0")]), 0)
        self.assertEqual(right_lines(["note x " + model_seal("note x", "")]), 0)

    def test_one_to_three_bits_of_a_line(self):
        source = random.Random(55)
        for at in range(120):
            text, seal = LINES[at][:-6], LINES[at][-6:]
            for _ in range(30):
                bits = source.sample(range(7 * len(text)), source.randrange(1, 4))
                codes = [ord(character) for character in text]
                for bit in bits:
                    codes[bit // 7] ^= 1 << bit % 7
                changed = "".join(chr(code) for code in codes)
                self.assertEqual(right_lines(LINES[:at] + [changed + seal] + LINES[at + 1:]), at)

    def test_right_entries(self):
        for text in ("put A 0 0", "put ONE 65535 60000", "put 12345678 9 10", "note a", "note  ", "note put A 1 1",
                     "note " + "x" * 100, "note  x ", "note 100 bytes", "note " + ALL_CHARACTERS[:95]):
            self.right(text)
        self.count(["put A 5 5", "drop A"], 2)
        self.count(["put A 5 5", "put B 5 5", "drop A", "put A 6 6", "drop B", "drop A"], 6)

    def test_other_words(self):
        for text in ("", " ", "put", "drop", "note", "PUT A 1 1", "Put A 1 1", "get A 1 1", "puts A 1 1", "Note x",
                     "notes x", "noted", "xnote a", "remark x", "A 1 1", "1", "pu A 1 1", "drop2 AB"):
            self.wrong(text)

    def test_more_and_fewer_words(self):
        for text in ("put A", "put A 1", "put A 1 1 1", "put A 1 1 x", "put 1 1", "drop AB AB", "drop AB 1", "drop",
                     "put A B 1 1"):
            self.wrong(text)

    def test_more_and_fewer_spaces(self):
        for text in ("put  A 1 1", "put A  1 1", "put A 1  1", "put A 1 1 ", " put A 1 1", "putA 1 1", "put A1 1",
                     "put A 1 1  ", "drop  AB", "drop AB ", " drop AB", "dropAB", " note x", "note", "notex",
                     "put  1 1", "put A  1", "put A 1 ", "put  1 1 ", "drop ", "note "):
            self.wrong(text)

    def test_numbers(self):
        for number in ("00", "01", "000", "00001", "+1", "-1", "1.0", "1e1", "x", "0x1", "1_0", "100000", "123456",
                       "00000", "9" * 5000, "12a", "-0", "1-"):
            self.wrong("put A " + number + " 1")
            self.wrong("put A 1 " + number)

    def test_numbers_that_are_too_great(self):
        for text, check in (("put A 65535 1", True), ("put A 65536 1", False), ("put A 99999 1", False),
                            ("put A 1 60000", True), ("put A 1 60001", False), ("put A 1 65535", False),
                            ("put A 60001 60000", True), ("put A 1 99999", False)):
            if check:
                self.right(text)
            else:
                self.wrong(text)

    def test_names(self):
        for name in RIGHT_NAMES:
            self.count(["put " + name + " 1 1", "drop " + name], 2)
        for name in WRONG_NAMES:
            self.wrong("put " + name + " 1 1")
            self.wrong("drop " + name)

    def test_a_name_put_twice(self):
        self.count(["put A 1 1", "put B 1 1", "put A 1 1"], 2)
        self.count(["put A 1 1", "put A 2 2"], 1)
        self.count(["put A 1 1", "drop A", "put A 1 1", "put A 1 1"], 3)

    def test_a_name_that_is_dropped_without_being_there(self):
        self.count(["drop A"], 0)
        self.count(["put A 1 1", "drop B"], 1)
        self.count(["put A 1 1", "drop A", "drop A"], 2)
        self.count(["put A 1 1", "note drop A", "drop A", "note put A 1 1", "drop A"], 4)

    def test_notes(self):
        for text in ("note ", "note " + "x" * 101, "note %", "note 5% x", "note " + "x" * 99 + "%"):
            self.wrong(text)
        self.right("note " + "x" * 99)


class AuditTest(ArchivesTest):

    def test_all_as_told(self):
        items = {name: ARCHIVE.item(name) for name in ARCHIVE.names()}
        self.assertTrue(items)
        self.assertEqual(audit(items, LINES), ([], [], []))

    def test_nothing(self):
        self.assertEqual(audit({}, []), ([], [], []))
        told = audit({}, [])
        self.assertEqual([type(told)] + [type(names) for names in told], [tuple, list, list, list])

    def test_no_lines(self):
        self.assertEqual(audit({"B": [1], "A": [], "C": [2]}, []), ([], ["A", "B", "C"], []))

    def test_no_items(self):
        lines = model_log([put_text(name, [5]) for name in ("B", "A", "C", "10", "9")])
        self.assertEqual(audit({}, lines), (["10", "9", "A", "B", "C"], [], []))

    def test_missing_extra_and_changed(self):
        lines = model_log([put_text(name, [ord(name)]) for name in "QBXMAZKDCLY"])
        items = {name: [ord(name)] for name in "KCY"}
        items.update({name: [1, 2] for name in "ZXM"})
        items.update({name: [ord(name)] for name in "WUEI"})
        self.assertEqual(audit(items, lines), (list("ABDLQ"), list("EIUW"), list("MXZ")))

    def test_the_length_alone(self):
        """Another length, with the CRC that the log tells."""
        lines = model_log(["put A " + str(model_crc([1, 2])) + " 3", put_text("B", [1, 2])])
        self.assertEqual(audit({"A": [1, 2], "B": [1, 2]}, lines), ([], [], ["A"]))

    def test_the_crc_alone(self):
        lines = model_log([put_text("A", [1, 2]), put_text("B", [1, 2])])
        self.assertEqual(audit({"A": [1, 3], "B": [1, 2]}, lines), ([], [], ["A"]))
        self.assertEqual(audit({"A": [1, 2], "B": [2, 1]}, lines), ([], [], ["B"]))

    def test_the_same_crc_and_length(self):
        """What the log cannot tell from the item is not told."""
        found = {}
        for number in range(70000):
            values = (number // 65536, number // 256 % 256, number % 256)
            check = model_crc(values)
            if check in found:
                break
            found[check] = values
        self.assertEqual(audit({"A": list(values)}, model_log([put_text("A", found[check])])), ([], [], []))

    def test_notes_and_drops(self):
        texts = ["note A", put_text("A", [1]), "note put B 1 1", put_text("B", [2]), "drop A", "note drop B"]
        self.assertEqual(audit({"B": [2]}, model_log(texts)), ([], [], []))
        self.assertEqual(audit({"A": [1], "B": [2]}, model_log(texts)), ([], ["A"], []))
        self.assertEqual(audit({}, model_log(texts)), (["B"], [], []))

    def test_put_again(self):
        texts = [put_text("A", [1]), "drop A", put_text("A", [2])]
        self.assertEqual(audit({"A": [2]}, model_log(texts)), ([], [], []))
        self.assertEqual(audit({"A": [1]}, model_log(texts)), ([], [], ["A"]))

    def test_empty_items(self):
        lines = model_log([put_text("A", []), put_text("B", [1])])
        self.assertEqual(audit({"A": [], "B": []}, lines), ([], [], ["B"]))
        self.assertEqual(audit({"A": [0], "B": [1]}, lines), ([], [], ["A"]))

    def test_what_is_passed_stays(self):
        items = {"A": [1], "B": [2]}
        lines = model_log([put_text("A", [5])])
        audit(items, lines)
        self.assertEqual([items, lines], [{"A": [1], "B": [2]}, model_log([put_text("A", [5])])])

    def test_a_name_of_another_form(self):
        self.assertEqual(audit({"x y": [1]}, []), ([], ["x y"], []))


if __name__ == "__main__":
    unittest.main()
