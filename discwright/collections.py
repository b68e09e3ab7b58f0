"""Collections of images by name (point 71)."""

from discwright.bytework import crc
from discwright.errors import InvalidItem
from discwright.images import image_bytes, read_image
from discwright.texts import is_name


class Collection:
    """Images by their names; equal ones are kept once."""

    def __init__(self):
        # The bytes of the different images, and for each name the index of its image among them.
        self._kept = []
        self._indexes = {}

    def add(self, name, image):
        """Keeps an image under a name that is not there yet."""
        if not is_name(name) or name in self._indexes:
            raise InvalidItem("the name is not valid, or is there already")
        values = image_bytes(image)
        if values not in self._kept:
            self._kept.append(values)
        self._indexes[name] = self._kept.index(values)

    def image(self, name):
        """The image with a name."""
        if name not in self._indexes:
            raise InvalidItem("there is no image with this name")
        image, _ = read_image(self._bytes_of(name))
        return image

    def names(self):
        """The ascending list of the names."""
        return sorted(self._indexes)

    def kept_count(self):
        """How many different images are kept."""
        return len(self._kept)

    def keys(self):
        """The ascending list of the pairs of a name and the key of its image."""
        return [(name, self._key_of(name)) for name in self.names()]

    def check(self, keys):
        """The ascending lists of missing names and of names with another key, for pairs of a name and a key."""
        missing = [name for name, _ in keys if name not in self._indexes]
        changed = [name for name, key in keys if name in self._indexes and key != self._key_of(name)]
        return sorted(missing), sorted(changed)

    def _bytes_of(self, name):
        """The bytes of the image with a name."""
        return self._kept[self._indexes[name]]

    def _key_of(self, name):
        """The key of the image with a name: the CRC of its bytes and their number."""
        values = self._bytes_of(name)
        return crc(values), len(values)
