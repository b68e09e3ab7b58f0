"""Points 10 to 12: discwright/encodings.py."""

import random
import unittest

from discwright.encodings import fm_cells, gcr_cells, gcr_code, mfm_cells, read_fm, read_gcr, read_mfm
from tests.models import model_bits, model_mfm


def model_codes():
    """Point 11: the codes of the group code, as texts."""
    codes = []
    for number in range(32):
        text = format(number, "05b")
        if not text.startswith("00") and not text.endswith("00") and "000" not in text:
            codes.append(text)
    return codes[:16]


def flipped(cells, *places):
    changed = list(cells)
    for place in places:
        changed[place] = 1 - changed[place]
    return changed


class FmTest(unittest.TestCase):

    def test_cells(self):
        self.assertEqual(fm_cells([]), [])
        self.assertEqual(fm_cells([160]), [1, 1, 1, 0, 1, 1, 1, 0, 1, 0, 1, 0, 1, 0, 1, 0])
        self.assertEqual(fm_cells([0, 255]), [1, 0] * 8 + [1, 1] * 8)

    def test_all_bytes(self):
        values = list(range(256))
        cells = fm_cells(values)
        self.assertEqual(cells[0::2], [1] * 2048)
        self.assertEqual(cells[1::2], model_bits(values))
        self.assertEqual(read_fm(cells), (values, []))

    def test_faults(self):
        cells = fm_cells([17, 200])
        self.assertEqual(read_fm(flipped(cells, 0)), ([17, 200], [0]))
        self.assertEqual(read_fm(flipped(cells, 2, 16, 30)), ([17, 200], [1, 8, 15]))
        self.assertEqual(read_fm([0] * 16), ([0], [0, 1, 2, 3, 4, 5, 6, 7]))

    def test_changed_bits_are_no_faults(self):
        self.assertEqual(read_fm(flipped(fm_cells([0]), 1, 15)), ([129], []))

    def test_cells_left_over(self):
        cells = fm_cells([33])
        self.assertEqual(read_fm([]), ([], []))
        self.assertEqual(read_fm(cells[:15]), ([], []))
        for count in range(1, 16):
            self.assertEqual(read_fm(cells + [0] * count), ([33], []), count)
        self.assertEqual(read_fm(cells + [0] * 16), ([33, 0], list(range(8, 16))))


class MfmTest(unittest.TestCase):

    def test_cells(self):
        self.assertEqual(mfm_cells([]), [])
        self.assertEqual(mfm_cells([161]), [0, 1, 0, 0, 0, 1, 0, 0, 1, 0, 1, 0, 1, 0, 0, 1])
        self.assertEqual(mfm_cells([0]), [1, 0] * 8)
        self.assertEqual(mfm_cells([255]), [0, 1] * 8)

    def test_the_bit_before(self):
        self.assertEqual(mfm_cells([0], before=0), [1, 0] * 8)
        self.assertEqual(mfm_cells([0], before=1), [0, 0] + [1, 0] * 7)
        self.assertEqual(mfm_cells([128], before=0), mfm_cells([128], before=1))
        self.assertEqual(mfm_cells([], before=1), [])

    def test_the_bit_before_goes_on_between_bytes(self):
        self.assertEqual(mfm_cells([1, 0])[16:18], [0, 0])
        self.assertEqual(mfm_cells([2, 0])[16:18], [1, 0])
        self.assertEqual(mfm_cells([0, 128])[16:18], [0, 1])

    def test_pairs_of_bytes(self):
        source = random.Random(5)
        for _ in range(200):
            values = [source.randrange(256) for _ in range(3)]
            for before in (0, 1):
                cells = mfm_cells(values, before=before)
                self.assertEqual(cells, model_mfm(values, before))
                self.assertEqual(read_mfm(cells, before=before), (values, []))

    def test_all_bytes(self):
        values = list(range(256))
        self.assertEqual(read_mfm(mfm_cells(values)), (values, []))

    def test_reading_takes_0_as_the_bit_before(self):
        self.assertEqual(read_mfm(mfm_cells([7], before=0)), ([7], []))
        self.assertEqual(read_mfm(mfm_cells([7], before=1)), ([7], [0]))
        self.assertEqual(read_mfm(mfm_cells([7], before=0), before=1), ([7], [0]))
        self.assertEqual(read_mfm(mfm_cells([200], before=0), before=1), ([200], []))

    def test_faults_of_clocks(self):
        cells = mfm_cells([161, 0])
        self.assertEqual(read_mfm(cells), ([161, 0], []))
        self.assertEqual(read_mfm(flipped(cells, 10)), ([161, 0], [5]))
        self.assertEqual(read_mfm(flipped(cells, 0, 16, 30)), ([161, 0], [0, 8, 15]))

    def test_a_changed_bit_makes_its_clock_and_the_next_one_faults(self):
        self.assertEqual(read_mfm(flipped([1, 0] * 8, 7)), ([16], [3, 4]))
        self.assertEqual(read_mfm(flipped([1, 0] * 8, 15)), ([1], [7]))

    def test_the_cells_of_a_mark(self):
        self.assertEqual(read_mfm([0, 1, 0, 0, 0, 1, 0, 0, 1, 0, 0, 0, 1, 0, 0, 1]), ([161], [5]))

    def test_cells_left_over(self):
        cells = mfm_cells([34])
        self.assertEqual(read_mfm([]), ([], []))
        self.assertEqual(read_mfm(cells[:15]), ([], []))
        for count in range(1, 16):
            self.assertEqual(read_mfm(cells + [1] * count), ([34], []), count)
        self.assertEqual(read_mfm(cells + [0] * 16), ([34, 0], list(range(8, 16))))


class GcrTest(unittest.TestCase):

    def test_all_codes(self):
        codes = [[int(digit) for digit in text] for text in model_codes()]
        self.assertEqual(len(codes), 16)
        self.assertEqual([gcr_code(number) for number in range(16)], codes)
        self.assertEqual([gcr_code(0), gcr_code(15)], [[0, 1, 0, 0, 1], [1, 1, 1, 1, 0]])

    def test_a_code_is_a_new_list(self):
        gcr_code(3).append(5)
        self.assertEqual(gcr_code(3), [0, 1, 1, 0, 1])

    def test_the_higher_bits_come_first(self):
        self.assertEqual(gcr_cells([]), [])
        self.assertEqual(gcr_cells([15]), gcr_code(0) + gcr_code(15))
        self.assertEqual(gcr_cells([58, 193]), gcr_code(3) + gcr_code(10) + gcr_code(12) + gcr_code(1))

    def test_all_bytes(self):
        values = list(range(256))
        cells = gcr_cells(values)
        self.assertEqual(len(cells), 2560)
        self.assertEqual(read_gcr(cells), (values, []))

    def test_groups_that_are_no_code(self):
        codes = model_codes()
        for number in range(32):
            text = format(number, "05b")
            group = [int(digit) for digit in text]
            if text in codes:
                value = codes.index(text)
                self.assertEqual(read_gcr(gcr_code(7) + group), ([112 + value], []))
                self.assertEqual(read_gcr(group + gcr_code(7)), ([16 * value + 7], []))
            else:
                self.assertEqual(read_gcr(gcr_code(7) + group), ([112], [1]))
                self.assertEqual(read_gcr(group + gcr_code(7)), ([7], [0]))

    def test_indexes_of_faults(self):
        bad = [1, 1, 1, 1, 1]
        cells = gcr_cells([1]) + bad + gcr_code(9) + gcr_code(4) + bad + bad + bad
        self.assertEqual(read_gcr(cells), ([1, 9, 64, 0], [2, 5, 6, 7]))

    def test_cells_left_over(self):
        cells = gcr_cells([35])
        self.assertEqual(read_gcr([]), ([], []))
        self.assertEqual(read_gcr(cells[:9]), ([], []))
        for count in range(1, 10):
            self.assertEqual(read_gcr(cells + [0] * count), ([35], []), count)
            self.assertEqual(read_gcr(cells + [1] * count), ([35], []), count)
        self.assertEqual(read_gcr(cells + gcr_code(6)), ([35], []))
        self.assertEqual(read_gcr(cells + [0] * 10), ([35, 0], [2, 3]))


class ArgumentsTest(unittest.TestCase):

    def test_no_list_is_changed(self):
        for write in (fm_cells, mfm_cells, gcr_cells):
            values = [1, 2, 250]
            write(values)
            self.assertEqual(values, [1, 2, 250])
        for read in (read_fm, read_mfm, read_gcr):
            cells = [1, 0, 1] * 20
            read(cells)
            self.assertEqual(cells, [1, 0, 1] * 20)

    def test_reading_returns_pairs_of_lists(self):
        for read in (read_fm, read_mfm, read_gcr):
            told = read([1, 0, 1] * 20)
            self.assertEqual([type(told), type(told[0]), type(told[1])], [tuple, list, list])


if __name__ == "__main__":
    unittest.main()
