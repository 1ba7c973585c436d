import unittest

from groupsnoop.ranges import is_row
from groupsnoop.wants import want_made
from tests.helper import allowing, blocking, but, only, setting

MANY = tuple(range(0, 20, 2))


def has(want, source):
    return (source in want[1]) == (want[0] == 0)


class Steps(unittest.TestCase):
    WANTS = (only(), only(3), only(2, 4, 6), only(*MANY), but(), but(3), but(2, 4, 6), but(*MANY))
    ROWS = ((), (0,), (3,), (2, 3), (1, 4, 6, 19), MANY, tuple(range(20)))

    def test_set(self):
        for want in self.WANTS:
            for other in self.WANTS:
                self.assertEqual(want_made(setting(other), want), other)

    def test_allow_and_block_source_by_source(self):
        for want in self.WANTS:
            for row in self.ROWS:
                allowed = want_made(allowing(*row), want)
                blocked = want_made(blocking(*row), want)
                for source in range(22):
                    self.assertEqual(has(allowed, source), has(want, source) or source in row)
                    self.assertEqual(has(blocked, source), has(want, source) and source not in row)

    def test_mode_stays_and_the_list_rises(self):
        for want in self.WANTS:
            for row in self.ROWS:
                for step in (allowing(*row), blocking(*row)):
                    mode, listed = want_made(step, want)
                    self.assertEqual(mode, want[0])
                    self.assertTrue(is_row(listed))
                    self.assertIs(type(listed), tuple)


class Rows(unittest.TestCase):
    def test_rows(self):
        for row in ([], [0], [2 ** 32 - 1], [0, 1, 2 ** 32 - 1], list(range(64))):
            self.assertTrue(is_row(row), row)

    def test_no_rows(self):
        for row in ([-1], [2 ** 32], [0, 0], [1, 0], [0, 2, 1], list(range(65)), [0, 2 ** 32], [2 ** 32 - 1, 0]):
            self.assertFalse(is_row(row), row)
