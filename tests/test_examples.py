"""The examples of the document, as they stand, through the interface alone."""

import unittest

from tests.helper import answered


class Examples(unittest.TestCase):
    def test_the_first(self):
        line = (
            (("begin", 2, 9, 10, 5, 1, 4, 4), [0]),
            (("host", 3, 0), [0]),
            (("want", 3, 300, 0, [7, 8]), [0]),
            (("bag",), [0, 1, 0, 3, 0, 300, 1, 0, 0, 0, 2, 7, 8]),
            (("frame", 1, 300, 7), [0, 0, 0]),
            (("deliver", 0), [0]),
            (("frame", 1, 300, 7), [0, 1, 0, 1, 3]),
            (("frame", 1, 300, 9), [0, 0, 0]),
            (("more", 3, 300, [9]), [0]),
            (("deliver", 0), [0]),
            (("frame", 1, 300, 9), [0, 1, 0, 1, 3]),
            (("tick", 10), [0]),
            (("frame", 1, 300, 7), [0, 0, 0]),
            (("counts",), [0, 10, 0, 0, 0, 0, 0, 5, 2]),
        )
        self.assertEqual(answered([call for call, wanted in line]), [wanted for call, wanted in line])
        # The bag is looked at beside the example's words; without the look all else is the same.
        line = [pair for pair in line if pair[0] != ("bag",)]
        self.assertEqual(answered([call for call, wanted in line]), [wanted for call, wanted in line])

    def test_the_second(self):
        line = (
            (("begin", 2, 9, 10, 5, 1, 4, 4), [0]),
            (("merge", 0, 1, [1, 2], [2, 3]), [0, 1, 1, 3]),
            (("steps", 0, 0, [1, 2], [2, 3]), [0, 2, 1, 1, 3, 2, 1, 1]),
        )
        self.assertEqual(answered([call for call, wanted in line]), [wanted for call, wanted in line])
