"""Points 18 to 21: discwright/images.py."""

import random
import unittest

from discwright.errors import BadBytes, DiscError, InvalidImage
from discwright.flux import Read
from discwright.images import Image, image_bytes, read_image
from tests.models import model_number, with_model_crc

ALLOWED = [chr(code) for code in range(32, 127) if code != 37]


def model_packed(intervals):
    """Point 20, looking back place by place."""
    values = []
    for at, ticks in enumerate(intervals):
        backs = [back for back in range(1, 61) if back <= at and intervals[at - back] == ticks]
        values += model_number(2 * backs[0] if backs else 2 * ticks + 1)
    return values


def model_head(cell, note, count):
    codes = [ord(character) for character in note]
    return with_model_crc([68, 87, 73] + model_number(cell) + model_number(len(codes)) + codes + model_number(count))


def model_read(read):
    return model_number(len(read.intervals)) + model_packed(read.intervals) + model_number(read.rest)


def model_track(cylinder, head, reads):
    values = model_number(cylinder) + model_number(head) + model_number(len(reads))
    for read in reads:
        values += model_read(read)
    return with_model_crc(values)


def model_image(cell, note, tracks):
    values = model_head(cell, note, len(tracks))
    for cylinder, head in sorted(tracks):
        values += model_track(cylinder, head, tracks[cylinder, head])
    return values


def track_of_numbers(*numbers):
    """A part with the right CRC and any numbers."""
    values = []
    for number in numbers:
        values += model_number(number)
    return with_model_crc(values)


def damaged(part):
    """A part whose CRC is wrong."""
    return part[:-1] + [part[-1] ^ 1]


def any_read(source, most=40):
    choices = [source.randrange(1, 1000001) for _ in range(3)] + [200, 300, 400]
    intervals = [source.choice(choices) for _ in range(source.randrange(most))]
    return Read(intervals, source.randrange(1000001))


def any_tracks(source, count):
    places = source.sample([(cylinder, head) for cylinder in range(100) for head in (0, 1)], count)
    return {place: [any_read(source) for _ in range(source.randrange(1, 4))] for place in places}


TRACKS = {(0, 0): [Read([200, 300, 200], 7), Read([], 0)], (0, 1): [Read([90], 5)], (40, 0): [Read([250, 250], 128)]}
PARTS = [model_track(0, 0, TRACKS[0, 0]), model_track(0, 1, TRACKS[0, 1]), model_track(40, 0, TRACKS[40, 0])]


class ImageTest(unittest.TestCase):

    def refused(self, cell, note, tracks):
        with self.assertRaises(DiscError) as caught:
            Image(cell, note, tracks)
        self.assertIs(type(caught.exception), InvalidImage)

    def test_fields_and_methods(self):
        image = Image(100, "a note", TRACKS)
        self.assertEqual([image.cell, image.note], [100, "a note"])
        self.assertEqual(image.places(), [(0, 0), (0, 1), (40, 0)])
        self.assertEqual(image.reads((0, 0)), [Read([200, 300, 200], 7), Read([], 0)])
        self.assertEqual(image.reads((40, 0)), [Read([250, 250], 128)])

    def test_places_ascend(self):
        places = [(99, 1), (2, 0), (10, 0), (2, 1), (0, 1)]
        image = Image(100, "", {place: [Read([], 1)] for place in places})
        self.assertEqual(image.places(), [(0, 1), (2, 0), (2, 1), (10, 0), (99, 1)])

    def test_no_tracks(self):
        image = Image(100, "", {})
        self.assertEqual([image.places(), image.reads((0, 0))], [[], []])

    def test_reads_of_a_place_that_is_not_there(self):
        image = Image(100, "", {(0, 0): [Read([], 1)]})
        for place in ((0, 1), (1, 0), (99, 1), (100, 0), (-1, 0)):
            self.assertEqual(image.reads(place), [])

    def test_lengths_of_a_cell(self):
        self.assertEqual([Image(10, "", {}).cell, Image(1000, "", {}).cell], [10, 1000])
        for cell in (-100, 0, 9, 1001):
            self.refused(cell, "", {})

    def test_notes(self):
        self.assertEqual(Image(100, "x" * 200, {}).note, "x" * 200)
        self.refused(100, "x" * 201, {})
        for character in ALLOWED:
            self.assertEqual(Image(100, character, {}).note, character)
        self.assertEqual(Image(100, "".join(ALLOWED), {}).note, "".join(ALLOWED))
        for code in list(range(32)) + [37] + list(range(127, 260)) + [8364]:
            self.refused(100, chr(code), {})
            self.refused(100, "ab" + chr(code) + "c", {})

    def test_places_in_their_ranges(self):
        reads = [Read([], 1)]
        for place in ((0, 0), (99, 0), (0, 1), (99, 1)):
            self.assertEqual(Image(100, "", {place: reads}).places(), [place])
        for place in ((-1, 0), (100, 0), (0, -1), (0, 2), (99, 2), (100, 1)):
            self.refused(100, "", {place: reads})
            self.refused(100, "", {(5, 0): reads, place: reads})

    def test_numbers_of_reads(self):
        for count in (1, 2, 20):
            self.assertEqual(len(Image(100, "", {(0, 0): [Read([], 1)] * count}).reads((0, 0))), count)
        for count in (0, 21):
            self.refused(100, "", {(0, 0): [Read([], 1)] * count})
            self.refused(100, "", {(0, 0): [Read([], 1)], (0, 1): [Read([], 1)] * count})

    def test_all_places(self):
        tracks = {(cylinder, head): [Read([], 1)] for cylinder in range(100) for head in (0, 1)}
        self.assertEqual(Image(100, "", tracks).places(), sorted(tracks))

    def test_equal(self):
        one = Image(100, "a", {(0, 0): [Read([1], 2)], (1, 0): [Read([], 3)]})
        other = Image(100, "a", {(1, 0): [Read([], 3)], (0, 0): [Read([1], 2)]})
        self.assertTrue(one == other)
        self.assertFalse(one != other)
        self.assertTrue(Image(100, "", {}) == Image(100, "", {}))

    def test_different(self):
        reads = [Read([1], 2), Read([], 3)]
        one = Image(100, "a", {(0, 0): reads})
        others = [
            Image(101, "a", {(0, 0): reads}), Image(100, "b", {(0, 0): reads}), Image(100, "a", {(0, 1): reads}),
            Image(100, "a", {}), Image(100, "a", {(0, 0): reads[:1]}), Image(100, "a", {(0, 0): reads[::-1]}),
            Image(100, "a", {(0, 0): [Read([1], 2), Read([], 4)]}), Image(100, "a", {(0, 0): reads, (0, 1): reads}),
        ]
        for other in others:
            self.assertFalse(one == other)
            self.assertTrue(one != other)

    def test_the_dict_and_its_lists_are_copied(self):
        reads = [Read([1], 2)]
        tracks = {(0, 0): reads}
        image = Image(100, "", tracks)
        reads.append(Read([], 3))
        tracks[1, 0] = reads
        self.assertEqual(image.places(), [(0, 0)])
        self.assertEqual(image.reads((0, 0)), [Read([1], 2)])
        self.assertTrue(image == Image(100, "", {(0, 0): [Read([1], 2)]}))

    def test_returned_lists_are_new(self):
        image = Image(100, "", {(0, 0): [Read([1], 2)]})
        image.places().append((1, 1))
        image.reads((0, 0)).append(Read([], 3))
        image.reads((5, 0)).append(Read([], 3))
        self.assertEqual([image.places(), image.reads((0, 0)), image.reads((5, 0))], [[(0, 0)], [Read([1], 2)], []])

    def test_the_dict_is_not_changed(self):
        tracks = {(1, 0): [Read([1], 2)], (0, 0): [Read([], 3)]}
        Image(100, "", tracks)
        self.assertEqual(list(tracks), [(1, 0), (0, 0)])
        self.assertEqual(tracks, {(1, 0): [Read([1], 2)], (0, 0): [Read([], 3)]})


class WritingTest(unittest.TestCase):

    def kept(self, cell, note, tracks):
        image = Image(cell, note, tracks)
        values = image_bytes(image)
        self.assertEqual(values, model_image(cell, note, tracks))
        told = read_image(values)
        self.assertIs(type(told), tuple)
        self.assertTrue(told[0] == image)
        self.assertEqual(told[1], [])
        self.assertEqual([told[0].cell, told[0].note], [cell, note])
        return values

    def test_no_tracks(self):
        values = self.kept(100, "", {})
        self.assertEqual(values[:6], [68, 87, 73, 100, 0, 0])
        self.assertEqual(len(values), 8)
        self.kept(1000, "a note", {})

    def test_number_by_number(self):
        values = self.kept(300, "hi", {(0, 1): [Read([200, 300, 200], 7)]})
        self.assertEqual(values[:9], [68, 87, 73, 172, 2, 2, 104, 105, 1])
        self.assertEqual(values[11:-2], [0, 1, 1, 3, 145, 3, 217, 4, 4, 7])

    def test_reads_without_intervals(self):
        values = self.kept(100, "", {(7, 0): [Read([], 0), Read([], 200)]})
        self.assertEqual(values[8:-2], [7, 0, 2, 0, 0, 0, 200, 1])

    def test_notes(self):
        self.kept(10, "x" * 200, {})
        self.kept(10, "x" * 127, {})
        self.kept(10, "x" * 128, {(99, 1): [Read([], 0)]})
        self.kept(10, "".join(ALLOWED), {(0, 0): [Read([5], 5)]})
        for character in ALLOWED:
            self.kept(10, character, {})

    def test_tracks_ascend(self):
        self.kept(100, "", {place: [Read([place[0] + 1], place[1])] for place in ((9, 1), (9, 0), (10, 0), (0, 1))})

    def test_all_places(self):
        self.kept(100, "", {(cylinder, head): [Read([], 1)] for cylinder in range(100) for head in (1, 0)})

    def test_twenty_reads(self):
        self.kept(100, "", {(3, 1): [Read([at + 1] * at, at) for at in range(20)]})

    def test_greatest_numbers(self):
        self.kept(1000, "", {(99, 1): [Read([1, 1000000, 999999], 1000000)]})
        self.kept(10, "", {(0, 0): [Read([1 + at % 70 for at in range(60000)], 0)]})

    def test_an_interval_that_stood_before(self):
        others = list(range(1000, 1060))
        for back in (1, 2, 59, 60):
            values = self.kept(100, "", {(0, 0): [Read([7] + others[:back - 1] + [7], 0)]})
            self.assertEqual(values[-4], 2 * back)
        values = self.kept(100, "", {(0, 0): [Read([7] + others + [7], 0)]})
        self.assertEqual(values[-4], 15)

    def test_the_nearest_one_is_taken(self):
        values = self.kept(100, "", {(0, 0): [Read([7, 7, 8, 7, 7, 8], 0)]})
        self.assertEqual(values[12:-2], [15, 2, 17, 4, 2, 6, 0])
        values = self.kept(100, "", {(0, 0): [Read([7] * 5, 0)]})
        self.assertEqual(values[12:-2], [15, 2, 2, 2, 2, 0])

    def test_each_read_begins_anew(self):
        values = self.kept(100, "", {(0, 0): [Read([7], 0), Read([7], 0)], (1, 0): [Read([7], 0)]})
        self.assertEqual(values[8:-2], [0, 0, 2, 1, 15, 0, 1, 15, 0] + values[17:19] + [1, 0, 1, 1, 15, 0])

    def test_any_images(self):
        source = random.Random(14)
        for count in range(25):
            note = "".join(source.choice(ALLOWED) for _ in range(source.randrange(30)))
            self.kept(source.randrange(10, 1001), note, any_tracks(source, count))

    def test_nothing_is_changed(self):
        image = Image(100, "a", TRACKS)
        values = image_bytes(image)
        image_bytes(image).append(1)
        self.assertEqual(image_bytes(image), values)
        copy = list(values)
        read_image(values)
        self.assertEqual(values, copy)


class BytesTest(unittest.TestCase):

    def refused(self, values):
        with self.assertRaises(DiscError) as caught:
            read_image(values)
        self.assertIs(type(caught.exception), BadBytes)

    def told(self, values, tracks, places):
        image, wrong = read_image(values)
        self.assertTrue(image == Image(100, "a", tracks))
        self.assertIs(type(wrong), list)
        self.assertEqual(wrong, places)


class DamagedTest(BytesTest):

    def test_one_damaged_track(self):
        places = sorted(TRACKS)
        for at, place in enumerate(places):
            parts = PARTS[:at] + [damaged(PARTS[at])] + PARTS[at + 1:]
            others = {other: TRACKS[other] for other in places if other != place}
            self.told(model_head(100, "a", 3) + sum(parts, []), others, [place])

    def test_a_changed_byte_of_the_crc(self):
        for place in (-1, -2):
            values = model_head(100, "a", 3) + sum(PARTS, [])
            for more in (1, 128, 255):
                changed = list(values)
                changed[place] = (changed[place] + more) % 256
                self.told(changed, {(0, 0): TRACKS[0, 0], (0, 1): TRACKS[0, 1]}, [(40, 0)])

    def test_a_changed_interval(self):
        part = list(PARTS[1])
        self.assertEqual(part[:6], [0, 1, 1, 1, 181, 1])
        part[4] = 182
        self.told(model_head(100, "a", 1) + part, {}, [(0, 1)])

    def test_several_damaged_tracks(self):
        parts = [damaged(PARTS[0]), PARTS[1], damaged(PARTS[2])]
        self.told(model_head(100, "a", 3) + sum(parts, []), {(0, 1): TRACKS[0, 1]}, [(0, 0), (40, 0)])
        parts = [damaged(part) for part in PARTS]
        self.told(model_head(100, "a", 3) + sum(parts, []), {}, [(0, 0), (0, 1), (40, 0)])

    def test_places_ascend_each_once(self):
        numbers = [(40, 0), (3, 7), (1000, 5), (40, 0), (0, 1), (3, 2), (0, 1)]
        parts = [damaged(track_of_numbers(cylinder, head, 1, 0, 9)) for cylinder, head in numbers]
        wrong = [(0, 1), (3, 2), (3, 7), (40, 0), (1000, 5)]
        self.told(model_head(100, "a", 7) + sum(parts, []), {}, wrong)
        self.told(model_head(100, "a", 8) + PARTS[1] + sum(parts, []), {(0, 1): TRACKS[0, 1]}, wrong)

    def test_places_whatever_they_are(self):
        for place in ((100, 0), (0, 2), (99, 1), (128, 300), (10 ** 25, 10 ** 29)):
            part = damaged(track_of_numbers(place[0], place[1], 1, 0, 9))
            self.told(model_head(100, "a", 2) + PARTS[0] + part, {(0, 0): TRACKS[0, 0]}, [place])

    def test_damaged_tracks_need_not_stand_in_order(self):
        part = damaged(PARTS[2])
        self.told(model_head(100, "a", 3) + part + PARTS[0] + PARTS[1], {(0, 0): TRACKS[0, 0], (0, 1): TRACKS[0, 1]},
                  [(40, 0)])
        part = damaged(PARTS[0])
        self.told(model_head(100, "a", 2) + PARTS[0] + part, {(0, 0): TRACKS[0, 0]}, [(0, 0)])

    def test_numbers_whatever_they_say(self):
        for numbers in ((1, 0, 1, 3, 1, 0, 200, 5), (1, 0, 1, 0, 1000001), (1, 0, 1, 1, 10 ** 28, 3),
                        (1, 0, 1, 2, 401, 401, 3), (1, 0, 1, 2, 15, 4, 10 ** 20)):
            part = damaged(track_of_numbers(*numbers))
            self.told(model_head(100, "a", 2) + part + PARTS[2], {(40, 0): TRACKS[40, 0]}, [(1, 0)])

    def test_numbers_of_reads_that_a_damaged_track_tells(self):
        for count in (1, 20):
            part = damaged(track_of_numbers(*([1, 0, count] + [0, 5] * count)))
            self.told(model_head(100, "a", 1) + part, {}, [(1, 0)])
        for count in (0, 21, 10 ** 9):
            part = damaged(track_of_numbers(*([1, 0, count] + [0, 5] * min(count, 21))))
            self.refused(model_head(100, "a", 1) + part)

    def test_numbers_of_intervals_that_a_damaged_track_tells(self):
        for count in (60000, 60001):
            part = damaged(track_of_numbers(*([1, 0, 1, count] + [3] * count + [5])))
            if count == 60000:
                self.told(model_head(100, "a", 2) + part + PARTS[2], {(40, 0): TRACKS[40, 0]}, [(1, 0)])
            else:
                self.refused(model_head(100, "a", 2) + part + PARTS[2])

    def test_an_end_that_is_not_found(self):
        self.refused(model_head(100, "a", 1) + [0, 0, 1, 5, 3, 3])
        self.refused(model_head(100, "a", 1) + [0, 0, 1, 0, 200, 200, 200])
        self.refused(model_head(100, "a", 2) + damaged(PARTS[0]))

    def test_the_number_of_tracks_counts_damaged_ones(self):
        values = damaged(PARTS[0]) + PARTS[1]
        self.told(model_head(100, "a", 2) + values, {(0, 1): TRACKS[0, 1]}, [(0, 0)])
        self.refused(model_head(100, "a", 1) + values)
        self.refused(model_head(100, "a", 3) + values)

    def test_the_list_is_not_changed(self):
        values = model_head(100, "a", 2) + damaged(PARTS[0]) + PARTS[1]
        copy = list(values)
        read_image(values)
        self.assertEqual(values, copy)


class ChangedBytesTest(BytesTest):

    VALUES = model_head(100, "a", 3) + sum(PARTS, [])
    HEAD = len(model_head(100, "a", 3))

    def test_the_head(self):
        for at in range(self.HEAD):
            for more in (1, 2, 64, 127, 128, 200, 255):
                values = list(self.VALUES)
                values[at] = (values[at] + more) % 256
                self.refused(values)

    def test_changed_bits_of_the_tracks(self):
        for at in range(self.HEAD, len(self.VALUES)):
            for bit in range(8):
                values = list(self.VALUES)
                values[at] = values[at] ^ (1 << bit)
                self.left_out(values)

    def test_bytes_left_out_and_put_in(self):
        for at in range(len(self.VALUES)):
            self.left_out(self.VALUES[:at] + self.VALUES[at + 1:])
            for value in (0, 1, 77, 200):
                if value != self.VALUES[at]:
                    self.left_out(self.VALUES[:at] + [value] + self.VALUES[at:])

    def left_out(self, values):
        """Wrong bytes are refused, or the tracks that are left are the true ones."""
        try:
            image, places = read_image(values)
        except BadBytes:
            return
        self.assertTrue(places)
        self.assertEqual([image.cell, image.note], [100, "a"])
        for place in image.places():
            self.assertEqual(image.reads(place), TRACKS[place])

    def test_bytes_cut_off(self):
        for count in range(len(self.VALUES)):
            self.refused(self.VALUES[:count])

    def test_bytes_cut_off_at_the_beginning(self):
        for count in range(1, len(self.VALUES)):
            self.refused(self.VALUES[count:])

    def test_bytes_behind_the_end(self):
        for values in ([0], [255], [0, 0], PARTS[0], PARTS[2], damaged(PARTS[2])):
            self.refused(self.VALUES + values)
        self.refused(model_head(100, "a", 0) + [0])

    def test_a_track_left_out_or_put_in(self):
        head = model_head(100, "a", 3)
        self.refused(head + PARTS[0] + PARTS[1])
        self.refused(model_head(100, "a", 2) + sum(PARTS, []))
        self.refused(model_head(100, "a", 0) + PARTS[0])

    def test_other_first_bytes(self):
        for first in ([68, 87, 48], [68, 87, 72], [68, 86, 73], [69, 87, 73], [87, 68, 73], [0, 0, 0]):
            self.refused(with_model_crc(first + [100, 0, 0]))


class WrongFormTest(BytesTest):
    """Parts with a right CRC."""

    def refused_track(self, *numbers):
        self.refused(model_head(100, "a", 1) + track_of_numbers(*numbers))

    def test_heads(self):
        for cell in (0, 9, 1001, 10 ** 20):
            self.refused(model_head(cell, "a", 0))
        self.refused(model_head(100, "x" * 201, 0))
        for code in list(range(32)) + [37] + list(range(127, 256)):
            self.refused(model_head(100, "a" + chr(code), 0))

    def test_heads_with_needless_digits(self):
        self.refused(with_model_crc([68, 87, 73, 228, 0, 0, 0]))
        self.refused(with_model_crc([68, 87, 73, 100, 128, 0, 0]))
        self.refused(with_model_crc([68, 87, 73, 100, 129, 0, 97, 0]))
        self.refused(with_model_crc([68, 87, 73, 100, 0, 128, 0]))

    def test_notes_that_are_longer_than_the_bytes(self):
        self.refused(with_model_crc([68, 87, 73, 100, 50, 97, 0]))
        self.refused(with_model_crc([68, 87, 73, 100] + model_number(10 ** 20) + [97, 0]))

    def test_places_out_of_range(self):
        for place in ((100, 0), (0, 2), (128, 0), (0, 128), (10 ** 20, 0)):
            self.refused_track(place[0], place[1], 1, 0, 5)

    def test_numbers_of_reads(self):
        self.refused_track(0, 0, 0)
        self.refused_track(*([0, 0, 21] + [0, 5] * 21))

    def test_numbers_of_intervals(self):
        self.refused_track(*([0, 0, 1, 60001, 15] + [2] * 60000 + [5]))

    def test_the_rest(self):
        self.told(model_head(100, "a", 1) + track_of_numbers(0, 0, 1, 0, 1000000), {(0, 0): [Read([], 1000000)]}, [])
        self.refused_track(0, 0, 1, 0, 1000001)
        self.refused_track(0, 0, 1, 0, 10 ** 20)

    def test_intervals_out_of_range(self):
        self.refused_track(0, 0, 1, 1, 1, 5)
        self.refused_track(0, 0, 1, 1, 2000003, 5)
        self.refused_track(0, 0, 1, 2, 15, 1, 5)
        part = track_of_numbers(0, 0, 1, 1, 2000001, 5)
        self.told(model_head(100, "a", 1) + part, {(0, 0): [Read([1000000], 5)]}, [])

    def test_intervals_that_go_back_too_far(self):
        self.refused_track(0, 0, 1, 1, 2, 5)
        self.refused_track(0, 0, 1, 2, 15, 4, 5)
        self.refused_track(0, 0, 1, 2, 15, 0, 5)
        self.refused_track(0, 0, 1, 1, 0, 5)
        self.refused_track(0, 0, 1, 2, 15, 2 * 10 ** 20, 5)
        self.refused_track(0, 0, 2, 1, 15, 5, 1, 2, 5)

    def test_intervals_that_go_back_more_than_60_places(self):
        others = [2 * ticks + 1 for ticks in range(1000, 1061)]
        intervals = [7] + list(range(1000, 1060)) + [7]
        self.told(model_head(100, "a", 1) + track_of_numbers(*([0, 0, 1, 62, 15] + others[:60] + [15, 5])),
                  {(0, 0): [Read(intervals, 5)]}, [])
        self.refused_track(*([0, 0, 1, 62, 15] + others[:60] + [122, 5]))
        self.refused_track(*([0, 0, 1, 63, 15] + others[:61] + [124, 5]))

    def test_intervals_that_could_go_back_less(self):
        self.refused_track(0, 0, 1, 3, 15, 2, 4, 5)
        self.refused_track(0, 0, 1, 4, 15, 17, 4, 6, 5)

    def test_intervals_written_as_numbers_though_they_stood_before(self):
        self.refused_track(0, 0, 1, 2, 15, 15, 5)
        self.refused_track(0, 0, 1, 3, 15, 17, 15, 5)
        others = [2 * ticks + 1 for ticks in range(1000, 1059)]
        self.refused_track(*([0, 0, 1, 61, 15] + others + [15, 5]))

    def test_needless_digits_of_tracks(self):
        right = [0, 0, 1, 2, 15, 2, 5]
        self.told(model_head(100, "a", 1) + with_model_crc(right), {(0, 0): [Read([7, 7], 5)]}, [])
        for at in range(len(right)):
            needless = right[:at] + [128 + right[at], 0] + right[at + 1:]
            self.refused(model_head(100, "a", 1) + with_model_crc(needless))

    def test_needless_digits_under_a_wrong_crc(self):
        """No number stands where the digits end with a needless 0, so the end of the track is not found."""
        numbers = [3, 1, 2, 2, 15, 2, 300, 0, 5]
        digits = [model_number(number) for number in numbers]
        for end in (with_model_crc, lambda part: damaged(with_model_crc(part))):
            for at in range(len(numbers)):
                for needless in ([128 + numbers[at] % 128, 0], digits[at][:-1] + [128 + digits[at][-1], 0], [128, 0],
                                 [128 + numbers[at] % 128, 128, 0]):
                    part = end(sum(digits[:at], []) + needless + sum(digits[at + 1:], []))
                    self.refused(model_head(100, "a", 1) + part)
                    self.refused(model_head(100, "a", 2) + part + PARTS[2])
                    self.refused(model_head(100, "a", 2) + PARTS[0] + part)
            part = end(sum(digits, []))
            told = read_image(model_head(100, "a", 2) + part + PARTS[2])
            self.assertEqual(told[0].reads((40, 0)), TRACKS[40, 0])
            self.assertEqual(told[1], [] if end is with_model_crc else [(3, 1)])

    def test_needless_digits_in_the_place_of_a_crc(self):
        """The two bytes behind a track are no number."""
        part = track_of_numbers(3, 1, 1, 0, 5)[:-2] + [128, 0]
        self.told(model_head(100, "a", 2) + part + PARTS[2], {(40, 0): TRACKS[40, 0]}, [(3, 1)])

    def test_places_that_do_not_ascend(self):
        for order in ((1, 0), (2, 1), (2, 0), (0, 0), (2, 2)):
            self.refused(model_head(100, "a", 2) + PARTS[order[0]] + PARTS[order[1]])
        self.refused(model_head(100, "a", 3) + PARTS[1] + PARTS[0] + PARTS[2])
        self.refused(model_head(100, "a", 3) + PARTS[2] + damaged(PARTS[1]) + PARTS[0])

    def test_a_wrong_track_beside_a_damaged_one(self):
        self.refused(model_head(100, "a", 2) + damaged(PARTS[0]) + track_of_numbers(100, 0, 1, 0, 5))
        self.refused(model_head(100, "a", 2) + track_of_numbers(0, 0, 1, 2, 15, 15, 5) + damaged(PARTS[1]))


if __name__ == "__main__":
    unittest.main()
