"""The examples of the interface, as they stand."""

import doctest
import unittest

BYTEWORK = """
>>> from discwright.bytework import crc, parity
>>> [crc([]), crc([49, 50, 51]), parity([[1, 255], [3, 15]])]
[65535, 23502, [2, 240]]
"""

FLUX = """
>>> from discwright.flux import Read, flux_of, fixed_cells, following_cells
>>> read = flux_of([0, 1, 0, 0, 1, 0], 100)
>>> [read.intervals, read.rest, fixed_cells(Read([230, 271], 60), 100), following_cells(Read([230, 340], 60), 100)]
[(200, 300), 100, [0, 1, 0, 0, 1, 0], [0, 1, 0, 0, 1, 0]]
"""

ENCODINGS = """
>>> from discwright.encodings import mfm_cells, read_mfm, gcr_code
>>> [mfm_cells([161])[:8], read_mfm(mfm_cells([161, 0])), gcr_code(0)]
[[0, 1, 0, 0, 0, 1, 0, 0], ([161, 0], []), [0, 1, 0, 0, 1]]
"""


class ExamplesTest(unittest.TestCase):

    def run_example(self, text):
        example = doctest.DocTestParser().get_doctest(text, {}, "example", None, 0)
        told = []
        result = doctest.DocTestRunner().run(example, out=told.append)
        self.assertEqual(result.failed, 0, "".join(told))

    def test_bytework(self):
        self.run_example(BYTEWORK)

    def test_flux(self):
        self.run_example(FLUX)

    def test_encodings(self):
        self.run_example(ENCODINGS)


if __name__ == "__main__":
    unittest.main()
