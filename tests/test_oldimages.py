"""Point 70: discwright/oldimages.py."""

import random
import unittest

from discwright.errors import BadBytes, DiscError
from discwright.flux import Read
from discwright.images import Image, image_bytes
from discwright.oldimages import migrated, old_bytes, read_old
from tests.models import model_number, with_model_crc

ALL_CHARACTERS = "".join([chr(code) for code in range(32, 127) if code != 37])


def three(number):
    return [number // 65536, number // 256 % 256, number % 256]


def model_old(cell, note, tracks):
    """Point 70, number by number, whatever the parts say; tracks are lists of a place and pairs."""
    values = [68, 87, 48, cell // 256, cell % 256, len(note)] + [ord(character) for character in note] + [len(tracks)]
    for (cylinder, head), reads in tracks:
        values += [cylinder, head, len(reads)]
        for intervals, rest in reads:
            values += [len(intervals) // 256, len(intervals) % 256]
            for ticks in list(intervals) + [rest]:
                values += three(ticks)
    return values


def model_new(cell, note, tracks):
    """Points 19 and 20 for reads whose intervals are all different."""
    values = [68, 87, 73] + model_number(cell) + model_number(len(note)) + [ord(character) for character in note]
    values = with_model_crc(values + model_number(len(tracks)))
    for (cylinder, head), reads in tracks:
        part = model_number(cylinder) + model_number(head) + model_number(len(reads))
        for intervals, rest in reads:
            part += model_number(len(intervals))
            for ticks in intervals:
                part += model_number(2 * ticks + 1)
            part += model_number(rest)
        values += with_model_crc(part)
    return values


def image_of(cell, note, tracks):
    return Image(cell, note, {place: [Read(list(intervals), rest) for intervals, rest in reads]
                              for place, reads in tracks})


def any_parts(source):
    """The parts of an image, with intervals that are all different in each read."""
    note = "".join(source.choice(ALL_CHARACTERS) for _ in range(source.choice([0, 1, 5, 127, 128, 200])))
    places = sorted(source.sample([(c, h) for c in range(100) for h in (0, 1)], source.choice([0, 1, 2, 5, 20])))
    tracks = []
    for place in places:
        reads = []
        for _ in range(source.choice([1, 1, 2, 20])):
            intervals = source.sample(range(1, source.choice([50, 300, 1000001])), source.randrange(40))
            reads.append((intervals, source.choice([0, 1, 255, 256, 65535, 65536, 1000000])))
        tracks.append((place, reads))
    return source.choice([10, 255, 256, 257, 1000, source.randrange(10, 1001)]), note, tracks


PARTS = (300, "ab", [((0, 1), [([200, 70000, 3], 5), ([], 1000000)]), ((99, 0), [([1], 0)])])
OLD = model_old(*PARTS)
IMAGE = image_of(*PARTS)


class OldImagesTest(unittest.TestCase):

    def refused(self, values):
        """Bytes that both functions refuse."""
        for call in (read_old, migrated):
            with self.assertRaises(DiscError) as caught:
                call(values)
            self.assertIs(type(caught.exception), BadBytes, values[:50])

    def parts_refused(self, cell, note, tracks):
        self.refused(model_old(cell, note, tracks))


class WritingTest(OldImagesTest):

    def test_number_by_number(self):
        self.assertEqual(old_bytes(IMAGE), [
            68, 87, 48, 1, 44, 2, 97, 98, 2,
            0, 1, 2, 0, 3, 0, 0, 200, 1, 17, 112, 0, 0, 3, 0, 0, 5, 0, 0, 15, 66, 64,
            99, 0, 1, 0, 1, 0, 0, 1, 0, 0, 0])
        self.assertEqual(OLD, old_bytes(IMAGE))

    def test_no_tracks(self):
        self.assertEqual(old_bytes(Image(10, "", {})), [68, 87, 48, 0, 10, 0, 0])

    def test_any_images(self):
        source = random.Random(70)
        for _ in range(60):
            parts = any_parts(source)
            self.assertEqual(old_bytes(image_of(*parts)), model_old(*parts))

    def test_the_greatest_numbers(self):
        tracks = [((99, 1), [([1000000] * 60000, 1000000)])]
        values = old_bytes(image_of(1000, "x" * 200, tracks))
        self.assertEqual(values, model_old(1000, "x" * 200, tracks))
        self.assertEqual(read_old(values), image_of(1000, "x" * 200, tracks))
        tracks = [((c, h), [([], 0)]) for c in range(100) for h in (0, 1)]
        self.assertEqual(old_bytes(image_of(10, "", tracks))[6], 200)
        self.assertEqual(read_old(model_old(10, "", tracks)), image_of(10, "", tracks))
        self.assertEqual(read_old(model_old(10, "", [((5, 0), [([7], 7)] * 20)])).reads((5, 0)), [Read([7], 7)] * 20)

    def test_the_order_of_the_tracks(self):
        reads = [Read([5], 5)]
        image = Image(50, "", {(1, 0): reads, (0, 1): reads, (10, 1): reads, (0, 0): reads, (9, 0): reads})
        self.assertEqual(old_bytes(image), model_old(50, "", [(place, [([5], 5)]) for place in image.places()]))


class ReadingTest(OldImagesTest):

    def test_any_images(self):
        source = random.Random(71)
        for _ in range(60):
            parts = any_parts(source)
            image = read_old(model_old(*parts))
            self.assertIs(type(image), Image)
            self.assertTrue(image == image_of(*parts))
            self.assertEqual(image.places(), [place for place, _ in parts[2]])

    def test_the_first_bytes(self):
        for at in range(3):
            for value in (0, 67, 69, 86, 88, 47, 49, 255):
                self.refused(OLD[:at] + [value] + OLD[at + 1:])
        for values in ([], [68], [68, 87], [68, 87, 48], [68, 87, 48, 0], [0] * 20):
            self.refused(values)

    def test_bytes_of_the_other_form(self):
        with self.assertRaises(BadBytes):
            read_old(image_bytes(IMAGE))

    def test_cut_off(self):
        for count in range(len(OLD)):
            self.refused(OLD[:count])
        values = model_old(50, "note", [])
        for count in range(len(values)):
            self.refused(values[:count])

    def test_bytes_put_behind(self):
        for more in ([0], [1], [255], [0] * 12, OLD, [0, 1, 1, 0, 0, 0, 0, 0]):
            self.refused(OLD + more)

    def test_values_that_are_no_bytes(self):
        for value in (-1, 256, 300, 10 ** 29, -(10 ** 29)):
            for at in range(len(OLD)):
                self.refused(OLD[:at] + [value] + OLD[at + 1:])
            self.refused(OLD + [value])

    def test_a_value_that_would_fit(self):
        """Two values that give the same number as the bytes."""
        self.refused(OLD[:3] + [0, 300] + OLD[5:])
        self.refused(OLD[:3] + [2, -212] + OLD[5:])

    def test_each_byte_changed(self):
        """What is taken is just the bytes of another image."""
        for at in range(len(OLD)):
            for value in range(256):
                if value == OLD[at]:
                    continue
                changed = OLD[:at] + [value] + OLD[at + 1:]
                try:
                    image = read_old(changed)
                except DiscError as error:
                    self.assertIs(type(error), BadBytes)
                else:
                    self.assertEqual(old_bytes(image), changed)
                    self.assertFalse(image == IMAGE)

    def test_lengths_of_a_cell(self):
        for cell in (10, 11, 999, 1000):
            self.assertEqual(read_old(model_old(cell, "", [])).cell, cell)
        for cell in (0, 1, 9, 1001, 1256, 65535, 2560):
            self.parts_refused(cell, "", [])
            self.parts_refused(cell, *PARTS[1:])

    def test_notes(self):
        for note in ("", ALL_CHARACTERS, "x" * 200):
            self.assertEqual(read_old(model_old(50, note, [])).note, note)
        for length in (201, 202, 255):
            self.parts_refused(50, "x" * length, [])
        for code in list(range(32)) + [37] + list(range(127, 256)):
            self.parts_refused(50, chr(code), [])
            self.parts_refused(50, "ab" + chr(code) + "c", PARTS[2])

    def test_places(self):
        for place in ((0, 0), (99, 1), (0, 1), (99, 0)):
            self.assertEqual(read_old(model_old(50, "", [(place, [([], 0)])])).places(), [place])
        for place in ((100, 0), (100, 1), (255, 0), (0, 2), (0, 255), (99, 2)):
            self.parts_refused(50, "", [(place, [([], 0)])])
            self.parts_refused(50, "", [((0, 0), [([], 0)]), (place, [([], 0)])])

    def test_places_that_do_not_ascend(self):
        for places in (((0, 0), (0, 0)), ((0, 1), (0, 0)), ((1, 0), (0, 1)), ((5, 0), (6, 0), (6, 0)),
                       ((5, 0), (7, 0), (6, 0)), ((5, 1), (5, 1)), ((1, 1), (1, 0), (2, 0))):
            self.parts_refused(50, "", [(place, [([3], 0)]) for place in places])
        for places in (((0, 0), (0, 1)), ((0, 1), (1, 0)), ((5, 0), (6, 0), (7, 0))):
            values = model_old(50, "", [(place, [([3], 0)]) for place in places])
            self.assertEqual(read_old(values).places(), list(places))

    def test_numbers_of_tracks(self):
        for count in (0, 1, 3, 255):
            self.refused(OLD[:8] + [count] + OLD[9:])
        self.assertEqual(OLD[8], 2)

    def test_numbers_of_reads(self):
        for count in (0, 21, 22, 255):
            self.parts_refused(50, "", [((0, 0), [([5], 5)] * count)])
        self.assertEqual(read_old(model_old(50, "", [((0, 0), [([5], 5)] * 20)])).reads((0, 0)), [Read([5], 5)] * 20)

    def test_numbers_of_intervals(self):
        for count in (60001, 65535):
            self.parts_refused(50, "", [((0, 0), [([5] * count, 5)])])
        values = model_old(50, "", [((0, 0), [([5] * 60000, 5)])])
        self.assertEqual(read_old(values).reads((0, 0)), [Read([5] * 60000, 5)])

    def test_ticks(self):
        for ticks in (1, 255, 256, 65535, 65536, 1000000):
            self.assertEqual(read_old(model_old(50, "", [((0, 0), [([ticks], ticks)])])).reads((0, 0)),
                             [Read([ticks], ticks)])
        for ticks in (0, 1000001, 16777215):
            self.parts_refused(50, "", [((0, 0), [([ticks], 5)])])
            self.parts_refused(50, "", [((0, 0), [([5, ticks, 5], 5)])])
        for rest in (1000001, 16777215):
            self.parts_refused(50, "", [((0, 0), [([5], rest)])])
        self.assertEqual(read_old(model_old(50, "", [((0, 0), [([5], 0)])])).reads((0, 0)), [Read([5], 0)])

    def test_the_bytes_stay(self):
        values = list(OLD)
        read_old(values)
        migrated(values)
        self.assertEqual(values, OLD)


class MigratedTest(OldImagesTest):

    def test_both_ways(self):
        self.assertEqual(migrated(OLD), model_new(*PARTS))
        self.assertEqual(migrated(model_new(*PARTS)), OLD)

    def test_any_images(self):
        source = random.Random(72)
        for _ in range(60):
            parts = any_parts(source)
            old, new = model_old(*parts), model_new(*parts)
            self.assertEqual([migrated(old), migrated(new)], [new, old])
            self.assertEqual([migrated(migrated(old)), migrated(migrated(new))], [old, new])

    def test_intervals_that_come_back(self):
        image = Image(100, "", {(0, 0): [Read([5, 6, 5, 6] * 50, 5)]})
        self.assertEqual(migrated(old_bytes(image)), image_bytes(image))
        self.assertEqual(migrated(image_bytes(image)), old_bytes(image))

    def test_damaged_tracks(self):
        new = model_new(*PARTS)
        for at in (-1, -2, -3):
            self.refused(new[:at] + [new[at] ^ 1] + (new[at + 1:] if at < -1 else []))
        image = model_new(50, "", [((0, 0), [([5], 5)])])
        self.refused(image[:-1] + [image[-1] ^ 128])

    def test_bytes_of_the_newer_form_that_are_not_right(self):
        new = model_new(*PARTS)
        for count in range(len(new)):
            self.refused(new[:count])
        self.refused(new + [0])
        self.refused(new[:-1] + [256])
        for at in range(len(new)):
            self.refused(new[:at] + [new[at] ^ 1] + new[at + 1:])

    def test_other_bytes(self):
        for values in ([], [0], [68, 87], [68, 87, 50, 0, 10, 0, 0], [80, 65, 0, 1, 2], [68, 88, 48, 0, 10, 0, 0]):
            self.refused(values)


if __name__ == "__main__":
    unittest.main()
