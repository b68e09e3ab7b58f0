"""Points 68 and 69: discwright/tracktexts.py."""

import random
import unittest

from discwright.errors import DiscError, InvalidLine, InvalidSector
from discwright.protection import protected_cells
from discwright.tracks import Sector, track_cells
from discwright.tracktexts import read_track_text, sectors_of, track_text

HEX = "000102030405060708090a0b0c0d0e0f"
COUNTING = list(range(16))


def filled(address, value, **faults):
    return Sector(address, [value] * (16 << address[3]), **faults)


def any_sector(source):
    """A sector that is not without data and with wrong data."""
    address = tuple(source.choice([0, 1, 9, 10, 99, 100, 254, 255]) for _ in range(3)) + (source.randrange(6),)
    length = 16 * 2 ** address[3]
    kind = source.randrange(3)
    if kind == 0:
        return Sector(address, None, address_wrong=source.randrange(2) == 0)
    value = source.choice([0, 9, 10, 255, source.randrange(256)])
    data = [value] * length if kind == 1 else [source.randrange(256) for _ in range(length)]
    return Sector(address, data, address_wrong=source.randrange(3) == 0, data_wrong=source.randrange(3) == 0)


def model_text(sectors, runs, length):
    """Points 68 and 69, by the words."""
    lines = []
    if length:
        lines.append("length " + str(length))
    for sector in sectors:
        address = " ".join(str(number) for number in sector.address)
        if sector.data is None:
            lines.append("empty " + address)
        elif min(sector.data) == max(sector.data):
            lines.append("sector " + address + " " + str(sector.data[0]))
        else:
            lines.append("data " + address + " " + "".join(format(value, "02x") for value in sector.data))
        if sector.address_wrong:
            lines.append("wrong address")
        if sector.data_wrong and sector.data is not None:
            lines.append("wrong data")
    for place, count in runs:
        lines.append("weak " + str(place) + " " + str(count))
    return "\n".join(lines)


class TrackTextsTest(unittest.TestCase):

    def read(self, lines, sectors, runs=(), length=0):
        told = read_track_text("\n".join(lines))
        self.assertEqual(told, (list(sectors), list(runs), length))
        self.assertEqual([type(told)] + [type(part) for part in told], [tuple, list, list, int])
        self.assertEqual({type(run) for run in told[1]} | {tuple}, {tuple})

    def wrong(self, lines, number):
        with self.assertRaises(DiscError) as caught:
            read_track_text("\n".join(lines))
        self.assertIs(type(caught.exception), InvalidLine, lines)
        self.assertEqual(caught.exception.line, number, lines)

    def wrong_line(self, line):
        """A line is wrong wherever it stands."""
        self.wrong([line], 1)
        self.wrong(["length 5", line], 2)
        self.wrong(["sector 0 0 1 0 5", line, "nonsense"], 2)
        self.wrong(["empty 0 0 1 0", "wrong address", line, "empty 0 0 1 0"], 3)


class SectorLinesTest(TrackTextsTest):

    def test_filled_sectors(self):
        self.read(["sector 0 0 1 0 229"], [Sector((0, 0, 1, 0), [229] * 16)])
        self.read(["sector 255 255 255 5 0"], [Sector((255, 255, 255, 5), [0] * 512)])
        self.read(["sector 1 2 3 4 255", "sector 1 2 3 4 7"],
                  [Sector((1, 2, 3, 4), [255] * 256), Sector((1, 2, 3, 4), [7] * 256)])

    def test_data(self):
        self.read(["data 0 1 2 0 " + HEX], [Sector((0, 1, 2, 0), COUNTING)])
        self.read(["data 0 1 2 0 " + "ff" * 16], [Sector((0, 1, 2, 0), [255] * 16)])
        values = [at * 7 % 256 for at in range(512)]
        text = "".join(format(value, "02x") for value in values)
        self.read(["data 9 8 7 5 " + text], [Sector((9, 8, 7, 5), values)])

    def test_each_byte(self):
        for value in range(256):
            self.read(["data 0 0 1 0 " + "00" * 15 + format(value, "02x")],
                      [Sector((0, 0, 1, 0), [0] * 15 + [value])])

    def test_empty_sectors(self):
        self.read(["empty 0 0 1 0"], [Sector((0, 0, 1, 0), None)])
        self.read(["empty 255 0 255 5"], [Sector((255, 0, 255, 5), None)])

    def test_numbers_of_other_forms(self):
        for number in ("00", "01", "001", "00005", "000001", "100000", "123456", "+1", "-1", "-0", "1.0", "x", "0x1",
                       "a", "1e1", "1_0", "", "9" * 5000, "1a", "ten"):
            for at in range(5):
                words = ["1", "1", "1", "1", "1"]
                words[at] = number
                self.wrong_line("sector " + " ".join(words))
                if at < 4:
                    words[4] = "05" * 32
                    self.wrong_line("data " + " ".join(words))
                    self.wrong_line("empty " + " ".join(words[:4]))

    def test_numbers_out_of_range(self):
        for number in (256, 257, 999, 1000, 65536, 99999):
            for at in range(5):
                words = ["1", "1", "1", "1", "1"]
                words[at] = str(number)
                self.wrong_line("sector " + " ".join(words))
                if at < 4:
                    words[4] = "05" * 32
                    self.wrong_line("data " + " ".join(words))
                    self.wrong_line("empty " + " ".join(words[:4]))

    def test_sizes(self):
        for size in range(6):
            self.read([f"sector 0 0 1 {size} 5"], [Sector((0, 0, 1, size), [5] * (16 << size))])
            self.read([f"empty 0 0 1 {size}"], [Sector((0, 0, 1, size), None)])
            self.read([f"data 0 0 1 {size} " + "05" * (16 << size)], [Sector((0, 0, 1, size), [5] * (16 << size))])
        for size in (6, 7, 8, 40, 255, 99999):
            self.wrong_line(f"sector 0 0 1 {size} 5")
            self.wrong_line(f"empty 0 0 1 {size}")
            self.wrong_line(f"data 0 0 1 {size} " + "05" * 1024)

    def test_numbers_of_digits(self):
        for size in range(6):
            length = 16 << size
            for count in (0, 1, 2, 2 * length - 2, 2 * length - 1, 2 * length + 1, 2 * length + 2, 4 * length, length):
                self.wrong_line(f"data 0 0 1 {size} " + "5" * count)

    def test_digits_of_other_forms(self):
        for sign in ("A", "F", "B", "g", "G", "x", "-", "+", ".", "_", "%", "z", ":", "/", "`", "@"):
            for at in (0, 1, 15, 30, 31):
                self.wrong_line("data 0 0 1 0 " + HEX[:at] + sign + HEX[at + 1:])
            self.wrong_line("data 0 0 1 0 " + sign * 32)
        self.wrong_line("data 0 0 1 0 " + HEX.upper())
        self.wrong_line("data 0 0 1 0 0x" + HEX[2:])
        self.wrong_line("data 0 0 1 0 " + " ".join(HEX[at:at + 2] for at in range(0, 32, 2)))

    def test_more_and_fewer_words(self):
        for line in ("sector", "sector 0", "sector 0 0 1", "sector 0 0 1 0", "sector 0 0 1 0 5 5", "sector 0 0 1 0 5 x",
                     "empty", "empty 0 0 1", "empty 0 0 1 0 0", "empty 0 0 1 0 5", "empty 0 0 1 0 " + HEX, "data",
                     "data 0 0 1 0", "data 0 0 1 " + HEX, "data 0 0 1 0 " + HEX + " 0", "data 0 0 1 0 5",
                     "data 0 0 1 0 " + HEX[:16] + " " + HEX[16:], "sector 0 0 1 0 " + HEX, "0 0 1 0 5", "0 0 1 0"):
            self.wrong_line(line)

    def test_spaces(self):
        for line in (" sector 0 0 1 0 5", "sector  0 0 1 0 5", "sector 0  0 1 0 5", "sector 0 0 1 0  5",
                     "sector 0 0 1 0 5 ", "sector 0 0 1 0 ", "sector 0 0 1 05", "sector0 0 1 0 5", " empty 0 0 1 0",
                     "empty  0 0 1 0", "empty 0 0 1 0 ", "empty 0 0 1  0", "empty 0 0 1 ", " data 0 0 1 0 " + HEX,
                     "data  0 0 1 0 " + HEX, "data 0 0 1 0  " + HEX, "data 0 0 1 0 " + HEX + " ", "data 0 0 1 0 ",
                     "sector\t0 0 1 0 5"):
            self.wrong_line(line)

    def test_other_words(self):
        for line in ("Sector 0 0 1 0 5", "SECTOR 0 0 1 0 5", "sectors 0 0 1 0 5", "sect 0 0 1 0 5", "Empty 0 0 1 0",
                     "emptys 0 0 1 0", "Data 0 0 1 0 " + HEX, "DATA 0 0 1 0 " + HEX, "dat 0 0 1 0 " + HEX, "x", " ",
                     "  ", "filled 0 0 1 0 5", "track", "5", "wrong", "weak", "length", "fill 0 0 1 0", "hex 0 0 1 0 5",
                     "void 0 0 1 0"):
            self.wrong_line(line)

    def test_empty_lines(self):
        self.wrong(["", ""], 1)
        self.wrong(["sector 0 0 1 0 5", ""], 2)
        self.wrong(["", "sector 0 0 1 0 5"], 1)
        self.wrong(["sector 0 0 1 0 5", "", "sector 0 0 1 0 5"], 2)
        self.wrong(["weak 1 2", ""], 2)
        self.wrong(["length 5", ""], 2)

    def test_the_empty_text(self):
        self.assertEqual(read_track_text(""), ([], [], 0))

    def test_the_first_wrong_line(self):
        self.wrong(["sector 0 0 1 0 5", "x", "y"], 2)
        self.wrong(["x", "sector 0 0 1 0 5", ""], 1)
        self.wrong(["length 5"] + ["sector 0 0 1 0 5"] * 200 + ["sector 0 0 1 0 256", "x"], 202)


class FaultLinesTest(TrackTextsTest):

    def test_each_fault(self):
        for line, sector in (("sector 0 0 1 0 5", [5] * 16), ("data 0 0 1 0 " + HEX, COUNTING)):
            address = (0, 0, 1, 0)
            self.read([line, "wrong address"], [Sector(address, sector, address_wrong=True)])
            self.read([line, "wrong data"], [Sector(address, sector, data_wrong=True)])
            both = [Sector(address, sector, address_wrong=True, data_wrong=True)]
            self.read([line, "wrong address", "wrong data"], both)
            self.read([line, "wrong data", "wrong address"], both)

    def test_the_sector_of_the_line_before(self):
        self.read(["sector 0 0 1 0 5", "wrong data", "sector 0 0 2 0 6", "empty 0 0 3 0", "wrong address"],
                  [filled((0, 0, 1, 0), 5, data_wrong=True), filled((0, 0, 2, 0), 6),
                   Sector((0, 0, 3, 0), None, address_wrong=True)])
        self.read(["sector 0 0 1 0 5", "sector 0 0 1 0 5", "wrong address", "sector 0 0 1 0 5"],
                  [filled((0, 0, 1, 0), 5), filled((0, 0, 1, 0), 5, address_wrong=True), filled((0, 0, 1, 0), 5)])

    def test_faults_doubled(self):
        for line in ("sector 0 0 1 0 5", "data 0 0 1 0 " + HEX):
            self.wrong([line, "wrong address", "wrong address"], 3)
            self.wrong([line, "wrong data", "wrong data"], 3)
            self.wrong([line, "wrong address", "wrong data", "wrong address"], 4)
            self.wrong([line, "wrong data", "wrong address", "wrong data"], 4)
            self.wrong([line, "wrong address", "wrong data", "wrong data"], 4)
        self.wrong(["empty 0 0 1 0", "wrong address", "wrong address"], 3)
        self.read(["sector 0 0 1 0 5", "wrong data"] * 2, [filled((0, 0, 1, 0), 5, data_wrong=True)] * 2)

    def test_faults_before_the_first_sector(self):
        for line in ("wrong address", "wrong data"):
            self.wrong([line], 1)
            self.wrong([line, "sector 0 0 1 0 5"], 1)
            self.wrong(["length 5", line], 2)
            self.wrong(["length 5", line, "sector 0 0 1 0 5"], 2)

    def test_wrong_data_of_a_sector_without_data(self):
        self.wrong(["empty 0 0 1 0", "wrong data"], 2)
        self.wrong(["empty 0 0 1 0", "wrong address", "wrong data"], 3)
        self.wrong(["sector 0 0 1 0 5", "empty 0 0 1 0", "wrong data"], 3)

    def test_faults_behind_weak_lines(self):
        for line in ("wrong address", "wrong data"):
            self.wrong(["sector 0 0 1 0 5", "weak 1 2", line], 3)
            self.wrong(["weak 1 2", line], 2)

    def test_other_forms(self):
        for line in ("wrong", "wrong ", "wrong sector", "wrong  address", "wrong  data", " wrong data", "wrong data ",
                     " wrong address", "wrong address ", "Wrong data", "WRONG ADDRESS", "wrong Data", "wrongdata",
                     "wrong address 1", "wrong data data", "data wrong", "address wrong", "wrong address wrong data"):
            self.wrong(["sector 0 0 1 0 5", line], 2)
            self.wrong(["empty 0 0 1 0", line], 2)


class WeakLinesTest(TrackTextsTest):

    def test_runs(self):
        self.read(["weak 40 8"], [], [(40, 8)])
        self.read(["sector 0 0 1 0 5", "weak 0 0", "weak 99999 99999", "weak 5 7", "weak 5 7"],
                  [filled((0, 0, 1, 0), 5)], [(0, 0), (99999, 99999), (5, 7), (5, 7)])
        self.read(["length 9", "weak 1 2"], [], [(1, 2)], 9)

    def test_numbers_of_other_forms(self):
        for number in ("00", "01", "00005", "000005", "100000", "999999", "+1", "-1", "1.0", "x", "0x1", "a", "",
                       "9" * 5000):
            self.wrong_line("weak " + number + " 1")
            self.wrong_line("weak 1 " + number)

    def test_words_and_spaces(self):
        for line in ("weak", "weak 1", "weak 1 2 3", "weak 1 2 ", "weak  1 2", "weak 1  2", " weak 1 2", "weak 1 ",
                     "weak ", "weak  1", "Weak 1 2", "weaks 1 2", "weak1 2", "weak 12"):
            self.wrong_line(line)

    def test_lines_behind_them(self):
        for line in ("sector 0 0 1 0 5", "empty 0 0 1 0", "data 0 0 1 0 " + HEX, "wrong address", "length 5", "length 0"):
            self.wrong(["sector 0 0 1 0 5", "weak 1 2", line], 3)
            self.wrong(["weak 1 2", "weak 1 2", line, "weak 1 2"], 3)


class LengthLineTest(TrackTextsTest):

    def test_lengths(self):
        for length in (0, 1, 9, 10, 6250, 59999, 60000):
            self.read(["length " + str(length)], [], [], length)
            self.read(["length " + str(length), "empty 0 0 1 0", "weak 3 4"], [Sector((0, 0, 1, 0), None)], [(3, 4)],
                      length)

    def test_lengths_out_of_range(self):
        for length in (60001, 65536, 99999, 100000):
            self.wrong(["length " + str(length)], 1)
            self.wrong(["length " + str(length), "empty 0 0 1 0"], 1)

    def test_not_the_first_line(self):
        self.wrong(["length 5", "length 5"], 2)
        self.wrong(["empty 0 0 1 0", "length 5"], 2)
        self.wrong(["empty 0 0 1 0", "wrong address", "length 5"], 3)
        self.wrong(["weak 1 2", "length 5"], 2)

    def test_other_forms(self):
        for line in ("length", "length ", "length 00", "length 05", "length 000005", "length 5 5", "length 5 ",
                     "length  5", " length 5", "Length 5", "lengths 5", "length -5", "length +5", "length x", "length 5.0",
                     "length5", "length 0x5", "length " + "9" * 5000):
            self.wrong([line], 1)
            self.wrong([line, "sector 0 0 1 0 5"], 1)


class DescribingTest(TrackTextsTest):

    def told(self, sectors, runs, length, text):
        self.assertEqual(track_text(sectors, runs, length), text)
        self.assertEqual(model_text(sectors, runs, length), text)
        self.assertEqual(read_track_text(text), (sectors, runs, length))

    def test_nothing(self):
        self.told([], [], 0, "")

    def test_kinds_of_sectors(self):
        self.told([Sector((0, 0, 1, 0), None)], [], 0, "empty 0 0 1 0")
        self.told([filled((0, 255, 1, 5), 229)], [], 0, "sector 0 255 1 5 229")
        self.told([Sector((1, 2, 3, 0), COUNTING)], [], 0, "data 1 2 3 0 " + HEX)
        self.told([Sector((1, 2, 3, 0), [0] * 15 + [171])], [], 0, "data 1 2 3 0 " + "00" * 15 + "ab")
        self.told([Sector((1, 2, 3, 0), [171] + [0] * 15)], [], 0, "data 1 2 3 0 ab" + "00" * 15)
        self.told([filled((1, 2, 3, 0), 0)], [], 0, "sector 1 2 3 0 0")

    def test_faults(self):
        self.told([filled((0, 0, 1, 0), 5, address_wrong=True)], [], 0, "sector 0 0 1 0 5\nwrong address")
        self.told([filled((0, 0, 1, 0), 5, data_wrong=True)], [], 0, "sector 0 0 1 0 5\nwrong data")
        self.told([Sector((0, 0, 1, 0), COUNTING, address_wrong=True, data_wrong=True)], [], 0,
                  "data 0 0 1 0 " + HEX + "\nwrong address\nwrong data")
        self.told([Sector((0, 0, 1, 0), None, address_wrong=True)], [], 0, "empty 0 0 1 0\nwrong address")

    def test_runs_and_lengths(self):
        self.told([], [(40, 8), (0, 99999), (40, 8)], 0, "weak 40 8\nweak 0 99999\nweak 40 8")
        self.told([], [], 60000, "length 60000")
        self.told([filled((0, 0, 1, 0), 5, data_wrong=True), Sector((0, 0, 2, 0), None)], [(1, 2)], 100,
                  "length 100\nsector 0 0 1 0 5\nwrong data\nempty 0 0 2 0\nweak 1 2")

    def test_any_tracks(self):
        source = random.Random(69)
        for _ in range(300):
            sectors = [any_sector(source) for _ in range(source.randrange(6))]
            runs = [(source.randrange(100000), source.randrange(100000)) for _ in range(source.randrange(4))]
            length = source.choice([0, 1, 6250, 60000, source.randrange(60001)])
            self.told(sectors, runs, length, model_text(sectors, runs, length))

    def test_the_fault_without_meaning(self):
        """Wrong data of a sector without data: a line for it could not be read."""
        for wrong in (False, True):
            sector = Sector((0, 0, 1, 0), None, address_wrong=wrong, data_wrong=True)
            text = track_text([sector], [], 0)
            self.assertEqual(text, "empty 0 0 1 0\nwrong address" if wrong else "empty 0 0 1 0")
            self.assertEqual(track_cells(read_track_text(text)[0]), track_cells([sector]))

    def test_the_same_cells(self):
        source = random.Random(68)
        for _ in range(30):
            sectors = [any_sector(source) for _ in range(3)]
            runs = [(source.randrange(3000), source.randrange(300))]
            told = read_track_text(track_text(sectors, runs, 2000))
            self.assertEqual(protected_cells(told[0], told[1], 3, length=told[2]),
                             protected_cells(sectors, runs, 3, length=2000))

    def test_sectors_that_are_not_valid(self):
        right = filled((0, 0, 1, 0), 5)
        for address, data in (((256, 0, 1, 0), None), ((0, -1, 1, 0), None), ((0, 0, 1, 6), None), ((0, 0, 300, 0), None),
                              ((0, 0, 1, -1), None), ((0, 0, 1, 0), [5] * 15), ((0, 0, 1, 0), [5] * 17),
                              ((0, 0, 1, 0), []), ((0, 0, 1, 1), [5] * 16), ((0, 0, 1, 0), [256] * 16),
                              ((0, 0, 1, 0), [5] * 15 + [-1])):
            for before in range(3):
                with self.assertRaises(DiscError) as caught:
                    track_text([right] * before + [Sector(address, data), right, Sector(address, data)], [(1, 2)], 5)
                self.assertIs(type(caught.exception), InvalidSector)
                self.assertEqual(caught.exception.index, before)

    def test_what_is_passed_stays(self):
        sectors, runs = [filled((0, 0, 1, 0), 5)], [(1, 2)]
        track_text(sectors, runs, 5)
        self.assertEqual([sectors, runs], [[filled((0, 0, 1, 0), 5)], [(1, 2)]])


class SectorsOfTest(TrackTextsTest):

    def found(self, sectors, **length):
        told = sectors_of(track_cells(sectors, **length))
        self.assertEqual(told, sectors)
        self.assertIs(type(told), list)

    def test_none(self):
        self.found([])
        self.assertEqual(sectors_of([]), [])
        self.assertEqual(sectors_of([0, 1] * 500), [])

    def test_each_fault(self):
        for data in (None, COUNTING, [7] * 16):
            for address_wrong in (False, True):
                for data_wrong in (False, True):
                    if data is not None or not data_wrong:
                        self.found([Sector((0, 0, 1, 0), data, address_wrong=address_wrong, data_wrong=data_wrong)])

    def test_the_kinds_of_the_fields(self):
        sector = sectors_of(track_cells([Sector((0, 0, 1, 0), COUNTING)]))[0]
        self.assertEqual([type(sector.address), type(sector.data), sector.address_wrong, sector.data_wrong],
                         [tuple, tuple, False, False])

    def test_a_sector_without_data_has_no_wrong_data(self):
        told = sectors_of(track_cells([Sector((0, 0, 1, 0), None, data_wrong=True)]))
        self.assertEqual(told, [Sector((0, 0, 1, 0), None)])
        self.assertIs(told[0].data_wrong, False)

    def test_data_that_are_damaged(self):
        cells = track_cells([Sector((0, 0, 1, 0), COUNTING)])
        changed = cells[:700] + [1 - cells[700]] + cells[701:]
        told = sectors_of(changed)
        self.assertEqual([told[0].address, told[0].address_wrong, told[0].data_wrong], [(0, 0, 1, 0), False, True])

    def test_any_tracks(self):
        source = random.Random(691)
        for _ in range(40):
            self.found([any_sector(source) for _ in range(source.randrange(5))], length=source.choice([0, 500, 4000]))

    def test_there_and_back_through_a_text(self):
        source = random.Random(692)
        for _ in range(20):
            text = model_text([any_sector(source) for _ in range(4)], [], 0)
            self.assertEqual(track_text(sectors_of(track_cells(read_track_text(text)[0])), [], 0), text)


if __name__ == "__main__":
    unittest.main()
