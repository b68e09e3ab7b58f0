"""Point 71: discwright/collections.py."""

import random
import unittest

from discwright.collections import Collection
from discwright.errors import DiscError, InvalidItem
from discwright.flux import Read
from discwright.images import Image, image_bytes
from tests.models import model_crc

WRONG_NAMES = ("", "one", "ABCDEFGHI", "A B", " A", "A ", "A-B", "A.B", "ONE\n", "Aa", "_", "A%")


def image_with(number, *, note="", cell=50):
    """An image; those of other numbers have other lengths."""
    return Image(cell, note, {(0, 0): [Read([number] * number, 5)]})


def key_of(image):
    values = image_bytes(image)
    return model_crc(values), len(values)


class CollectionTest(unittest.TestCase):

    def setUp(self):
        self.collection = Collection()
        self.collection.add("TWO", image_with(2))
        self.collection.add("ONE", image_with(1))

    def state(self):
        names = self.collection.names()
        return [names, self.collection.keys(), self.collection.kept_count(),
                [image_bytes(self.collection.image(name)) for name in names]]

    def unchanged(self, call, *arguments):
        """The call raises InvalidItem, and changes nothing."""
        before = self.state()
        with self.assertRaises(DiscError) as caught:
            call(*arguments)
        self.assertIs(type(caught.exception), InvalidItem, arguments)
        self.assertEqual(self.state(), before)

    def test_without_images(self):
        collection = Collection()
        self.assertEqual([collection.names(), collection.keys(), collection.kept_count()], [[], [], 0])
        self.assertEqual(collection.check([]), ([], []))
        with self.assertRaises(InvalidItem):
            collection.image("ONE")

    def test_add(self):
        self.assertIsNone(self.collection.add("A", image_with(3)))
        self.assertEqual(self.collection.names(), ["A", "ONE", "TWO"])
        self.assertTrue(self.collection.image("A") == image_with(3))
        self.assertTrue(self.collection.image("ONE") == image_with(1))
        self.assertTrue(self.collection.image("TWO") == image_with(2))

    def test_names(self):
        for name in ("Z", "0", "ABCDEFGH", "12345678", "10", "9"):
            self.collection.add(name, image_with(7))
        self.assertEqual(self.collection.names(), ["0", "10", "12345678", "9", "ABCDEFGH", "ONE", "TWO", "Z"])
        for name in WRONG_NAMES:
            self.unchanged(self.collection.add, name, image_with(9))
            self.unchanged(self.collection.image, name)

    def test_a_name_that_is_there(self):
        self.unchanged(self.collection.add, "ONE", image_with(1))
        self.unchanged(self.collection.add, "TWO", image_with(3))

    def test_a_name_that_is_not_there(self):
        self.unchanged(self.collection.image, "THREE")

    def test_images_of_all_parts(self):
        source = random.Random(71)
        for number in range(30):
            tracks = {(source.randrange(100), source.randrange(2)):
                      [Read([source.randrange(1, 1000001) for _ in range(source.randrange(9))], source.randrange(99))
                       for _ in range(source.randrange(1, 4))] for _ in range(source.randrange(5))}
            image = Image(source.randrange(10, 1001), "note " + str(number), tracks)
            self.collection.add("I" + str(number), image)
            told = self.collection.image("I" + str(number))
            self.assertIs(type(told), Image)
            self.assertTrue(told == image)

    def test_equal_images_are_kept_once(self):
        self.assertEqual(self.collection.kept_count(), 2)
        self.collection.add("A", image_with(1))
        self.collection.add("B", image_with(2))
        self.collection.add("C", image_with(1))
        self.assertEqual(self.collection.kept_count(), 2)
        self.collection.add("D", image_with(3))
        self.assertEqual(self.collection.kept_count(), 3)
        self.assertEqual(self.collection.names(), ["A", "B", "C", "D", "ONE", "TWO"])
        numbers = [self.collection.image(name).reads((0, 0))[0].intervals[0] for name in self.collection.names()]
        self.assertEqual(numbers, [1, 2, 1, 3, 1, 2])

    def test_images_that_differ_in_one_part(self):
        for number, image in enumerate((image_with(1, note="x"), image_with(1, cell=51), Image(50, "", {}),
                                        Image(50, "", {(0, 1): [Read([1], 5)]}),
                                        Image(50, "", {(0, 0): [Read([1], 6)]}))):
            self.collection.add("N" + str(number), image)
        self.assertEqual(self.collection.kept_count(), 7)

    def test_images_with_one_key(self):
        """Each part of an image ends with its CRC, so the CRC of all bytes tells no more than the lengths of the parts.

        Images with equal keys and different bytes are different.
        """
        first, second = image_with(3, note="a"), image_with(3, note="b")
        self.assertEqual(key_of(first), key_of(second))
        self.collection.add("A", first)
        self.collection.add("B", second)
        self.assertEqual(self.collection.kept_count(), 4)
        self.assertTrue(self.collection.image("A") == first)
        self.assertTrue(self.collection.image("B") == second)
        self.assertEqual(self.collection.keys()[:2], [("A", key_of(first)), ("B", key_of(first))])

    def test_keys(self):
        keys = self.collection.keys()
        self.assertEqual(keys, [("ONE", key_of(image_with(1))), ("TWO", key_of(image_with(2)))])
        self.assertEqual([type(keys), type(keys[0]), type(keys[0][1])], [list, tuple, tuple])
        self.collection.add("A", image_with(2))
        self.assertEqual(self.collection.keys(), [("A", key_of(image_with(2)))] + keys)

    def test_a_key_number_by_number(self):
        collection = Collection()
        collection.add("A", Image(100, "", {}))
        values = [68, 87, 73, 100, 0, 0]
        check = model_crc(values)
        values += [check // 256, check % 256]
        self.assertEqual(collection.keys(), [("A", (model_crc(values), 8))])

    def test_an_image_that_is_changed_later(self):
        image = image_with(5)
        self.collection.add("A", image)
        before = self.state()
        image.note = "changed"
        image.cell = 999
        image.reads((0, 0)).append(Read([1], 1))
        image.reads((0, 0))[0].rest = 77
        told = self.collection.image("A")
        told.note = "changed"
        told.reads((0, 0))[0].rest = 78
        self.assertEqual(self.state(), before)
        self.assertTrue(self.collection.image("A") == image_with(5))

    def test_lists_that_are_changed_later(self):
        reads = [Read([5], 5)]
        tracks = {(0, 0): reads}
        self.collection.add("A", Image(50, "", tracks))
        reads.append(Read([6], 6))
        tracks[(0, 1)] = [Read([7], 7)]
        self.assertTrue(self.collection.image("A") == Image(50, "", {(0, 0): [Read([5], 5)]}))
        self.collection.names().append("X")
        self.collection.keys().append(("X", (1, 2)))
        self.assertEqual(self.collection.names(), ["A", "ONE", "TWO"])
        self.assertEqual(len(self.collection.keys()), 3)


class CheckTest(unittest.TestCase):

    def setUp(self):
        self.collection = Collection()
        for number, name in enumerate(("Q", "B", "X", "10", "9")):
            self.collection.add(name, image_with(number + 1))
        self.keys = self.collection.keys()

    def test_right_keys(self):
        self.assertEqual(self.collection.check(self.keys), ([], []))
        self.assertEqual(self.collection.check(self.keys[::-1]), ([], []))
        self.assertEqual(self.collection.check(self.keys[1:3]), ([], []))
        told = self.collection.check([])
        self.assertEqual([told, type(told), type(told[0]), type(told[1])], [([], []), tuple, list, list])

    def test_missing_names(self):
        keys = [("Z", (1, 2)), ("A", (3, 4)), ("0", self.keys[0][1])]
        self.assertEqual(self.collection.check(keys), (["0", "A", "Z"], []))
        self.assertEqual(self.collection.check(keys + self.keys), (["0", "A", "Z"], []))
        self.assertEqual(self.collection.check([("no name", (1, 2))]), (["no name"], []))

    def test_other_keys(self):
        for name, (check, length) in self.keys:
            for other in ((check ^ 1, length), (check, length + 1), (check, length - 1), (length, check), (0, 0)):
                keys = [(name, other)] + [pair for pair in self.keys if pair[0] != name]
                self.assertEqual(self.collection.check(keys), ([], [name]))

    def test_all_at_once(self):
        keys = dict(self.keys)
        told = [("X", keys["Q"]), ("Q", keys["Q"]), ("Z", keys["X"]), ("9", (0, 0)), ("A", (1, 1)), ("B", keys["X"])]
        self.assertEqual(self.collection.check(told), (["A", "Z"], ["9", "B", "X"]))

    def test_another_collection(self):
        other = Collection()
        other.add("Q", image_with(1))
        other.add("B", image_with(9))
        other.add("NEW", image_with(1))
        self.assertEqual(self.collection.check(other.keys()), (["NEW"], ["B"]))
        self.assertEqual(other.check(self.keys), (["10", "9", "X"], ["B"]))

    def test_nothing_changes(self):
        keys = [("A", (1, 2)), ("Q", (3, 4))]
        self.collection.check(keys)
        self.assertEqual([keys, self.collection.keys()], [[("A", (1, 2)), ("Q", (3, 4))], self.keys])


if __name__ == "__main__":
    unittest.main()
