"""The calls merge and steps."""

import unittest

from groupsnoop.wants import merged, steps_between, want_made
from tests.helper import HIGH, LOW, Driver, but, only, refusals

ROW_64 = list(range(10, 74))
LAST_SOURCE = 2 ** 32 - 1

NO_ROWS = (
    [-1], [LAST_SOURCE + 1], [LOW], [HIGH], [1, 1], [2, 1], [1, 2, 2], [0, 5, 4], [-1, 0],
    [0, LAST_SOURCE, LAST_SOURCE + 1], list(range(65)), list(range(128)), [3] * 128,
)
# The last one is not rising in the order in which Python walks a set of its numbers.
LISTS = ([], [0], [3], [1, 2], [2, 3], [1, 2, 3, 4], [0, LAST_SOURCE], ROW_64, [1, 8, 33, 64, 65536, LAST_SOURCE])


def has(want, source):
    return (source in want[1]) == (want[0] == 0)


class Merge(unittest.TestCase):
    def merge(self, *arguments):
        return Driver().look("merge", *arguments)

    def test_only_and_only(self):
        self.assertEqual(self.merge(0, 0, [1, 3], [2, 3, 4]), [0, 0, 4, 1, 2, 3, 4])
        self.assertEqual(self.merge(0, 0, [], []), [0, 0, 0])

    def test_only_and_but(self):
        self.assertEqual(self.merge(0, 1, [1, 2], [2, 3]), [0, 1, 1, 3])
        self.assertEqual(self.merge(1, 0, [2, 3], [1, 2]), [0, 1, 1, 3])
        self.assertEqual(self.merge(0, 1, [2, 3], [1, 2]), [0, 1, 1, 1])
        self.assertEqual(self.merge(1, 0, [1, 2], [2, 3]), [0, 1, 1, 1])
        self.assertEqual(self.merge(0, 1, [], []), [0, 1, 0])

    def test_but_and_but(self):
        self.assertEqual(self.merge(1, 1, [1, 2, 4], [2, 3, 4]), [0, 1, 2, 2, 4])
        self.assertEqual(self.merge(1, 1, [1], [2]), [0, 1, 0])

    def test_only_to_128_in_the_list(self):
        self.assertEqual(self.merge(0, 0, list(range(64)), list(range(64, 128))), [0, 0, 128] + list(range(128)))
        far = list(range(LAST_SOURCE - 63, LAST_SOURCE + 1))
        self.assertEqual(self.merge(0, 0, far, list(range(64))), [0, 0, 128] + list(range(64)) + far)

    def test_source_by_source(self):
        for mode_one in (0, 1):
            for mode_other in (0, 1):
                for one in LISTS:
                    for other in LISTS:
                        answer = self.merge(mode_one, mode_other, one, other)
                        want = (answer[1], answer[3:])
                        self.assertEqual((answer[0], answer[2]), (0, len(want[1])))
                        self.assertEqual(want[1], sorted(set(want[1])))
                        self.assertEqual(want[0], max(mode_one, mode_other))
                        for source in list(range(76)) + [65536, LAST_SOURCE]:
                            either = has((mode_one, one), source) or has((mode_other, other), source)
                            self.assertEqual(has(want, source), either)

    def test_none_one_and_many(self):
        self.assertEqual(merged([]), only())
        self.assertEqual(merged([only(3, 4)]), only(3, 4))
        self.assertEqual(merged([but(3, 4)]), but(3, 4))
        self.assertEqual(merged([only(5), but(1, 5, 6), only(1), but(1, 5, 6, 7)]), but(6))

    def test_refusals(self):
        both_refused(self, "merge")


class Steps(unittest.TestCase):
    def steps(self, *arguments):
        return Driver().look("steps", *arguments)

    def test_other_modes(self):
        self.assertEqual(self.steps(0, 1, [1, 2], [2, 3]), [0, 1, 0, 1, 2, 2, 3])
        self.assertEqual(self.steps(1, 0, [1, 2], [2, 3]), [0, 1, 0, 0, 2, 2, 3])
        self.assertEqual(self.steps(1, 0, [1, 2], [1, 2]), [0, 1, 0, 0, 2, 1, 2])
        self.assertEqual(self.steps(0, 1, [], []), [0, 1, 0, 1, 0])

    def test_only(self):
        self.assertEqual(self.steps(0, 0, [1, 2], [2, 3]), [0, 2, 1, 1, 3, 2, 1, 1])
        self.assertEqual(self.steps(0, 0, [1, 2, 5, 6], [0, 2, 3, 9]), [0, 2, 1, 3, 0, 3, 9, 2, 3, 1, 5, 6])
        self.assertEqual(self.steps(0, 0, [], [2, 3]), [0, 1, 1, 2, 2, 3])
        self.assertEqual(self.steps(0, 0, [2, 3], [3]), [0, 1, 2, 1, 2])

    def test_but(self):
        self.assertEqual(self.steps(1, 1, [1, 2], [2, 3]), [0, 2, 1, 1, 1, 2, 1, 3])
        self.assertEqual(self.steps(1, 1, [1, 2, 5, 6], [0, 2, 3, 9]), [0, 2, 1, 3, 1, 5, 6, 2, 3, 0, 3, 9])
        self.assertEqual(self.steps(1, 1, [], [2, 3]), [0, 1, 2, 2, 2, 3])
        self.assertEqual(self.steps(1, 1, [2, 3], [3]), [0, 1, 1, 1, 2])

    def test_none_where_both_are_the_same(self):
        for mode in (0, 1):
            for row in LISTS:
                self.assertEqual(self.steps(mode, mode, row, row), [0, 0])

    def test_the_longest(self):
        one = list(range(64))
        other = list(range(64, 128))
        self.assertEqual(self.steps(0, 0, one, other), [0, 2, 1, 64] + other + [2, 64] + one)
        self.assertEqual(self.steps(1, 1, one, other), [0, 2, 1, 64] + one + [2, 64] + other)

    def test_they_lead_from_the_first_to_the_second(self):
        wants = [(mode, tuple(row)) for mode in (0, 1) for row in LISTS]
        for one in wants:
            for other in wants:
                want = one
                for step in steps_between(one, other):
                    want = want_made(step, want)
                self.assertEqual(want, other)

    def test_refusals(self):
        both_refused(self, "steps")


def both_refused(case, name):
    driver = Driver()
    for mode in (-1, 2, LOW, HIGH):
        refusals(case, driver, name, [((mode, 0, [], []), -1), ((1, mode, [], []), -1), ((mode, mode, [], []), -1)])
    for row in NO_ROWS:
        for mode in (0, 1):
            refusals(case, driver, name, [((mode, 1, row, []), -1), ((0, mode, [5], row), -1)])
    for row in ([], [0], [LAST_SOURCE], ROW_64):
        for mode in (0, 1):
            case.assertEqual(driver.look(name, mode, 1, row, [])[0], 0)
            case.assertEqual(driver.look(name, 0, mode, [5], row)[0], 0)
