import unittest

from tests.helper import HIGH, LOW, Driver, allowing, blocking, but, only, refusals, setting

ROW_64 = list(range(10, 74))
ROW_65 = list(range(10, 75))
LAST_GROUP = 2 ** 28 - 1
LAST_SOURCE = 2 ** 32 - 1

NO_ROWS = (
    [-1], [LAST_SOURCE + 1], [LOW], [HIGH], [1, 1], [2, 1], [1, 2, 2], [0, 5, 4], [-1, 0],
    [0, LAST_SOURCE, LAST_SOURCE + 1], ROW_65, list(range(128)), [3] * 128,
)


def with_host():
    return Driver().ok("host", 3, 1)


def with_64_groups():
    driver = with_host()
    for group in range(100, 164):
        driver.ok("want", 3, group, 0, [group])
    return driver.empty_bag()


class Want(unittest.TestCase):
    def test_it_sets_and_reports(self):
        driver = with_host().ok("tick", 3).empty_bag()
        driver.ok("want", 3, 300, 0, [7, 8])
        self.assertEqual(driver.bag(), [("report", 3, 1, 300, 1, 3, setting(only(7, 8)))])
        driver.ok("want", 3, 300, 1, [2]).ok("want", 3, 301, 1, [])
        self.assertEqual(driver.bag()[1:], [
            ("report", 3, 1, 300, 2, 3, setting(but(2))),
            ("report", 3, 1, 301, 1, 3, setting(but())),
        ])
        self.assertEqual(driver.host(3), (1, {300: (2, but(2)), 301: (1, but())}))

    def test_the_same_want_is_told_again(self):
        driver = with_host().ok("want", 3, 300, 0, [7]).ok("want", 3, 300, 0, [7])
        self.assertEqual([message[4] for message in driver.bag()], [1, 2])

    def test_only_this_host(self):
        driver = with_host().ok("host", 4, 1).ok("want", 3, 300, 0, [7])
        self.assertEqual(driver.host(4), (1, {}))

    def test_edges_that_are_taken(self):
        for group in (0, 255, 256, LAST_GROUP):
            for sources in ([], [0], [LAST_SOURCE], [0, LAST_SOURCE], ROW_64):
                for mode in (0, 1):
                    driver = with_host().ok("want", 3, group, mode, sources)
                    self.assertEqual(driver.host(3), (1, {group: (1, (mode, tuple(sources)))}))

    def test_refusals(self):
        driver = with_host()
        refusals(self, driver, "want", [
            ((2, 300, 0, []), -1), ((4, 300, 0, []), -1), ((-1, 300, 0, []), -1), ((HIGH, 300, 0, []), -1),
            ((3, -1, 0, []), -2), ((3, LAST_GROUP + 1, 0, []), -2), ((3, LOW, 0, []), -2), ((3, HIGH, 0, []), -2),
            ((3, 300, -1, []), -3), ((3, 300, 2, []), -3), ((3, 300, LOW, []), -3), ((3, 300, HIGH, []), -3),
        ])
        refusals(self, driver, "want", [((3, 300, 0, row), -3) for row in NO_ROWS])
        refusals(self, driver, "want", [((3, 300, 1, row), -3) for row in NO_ROWS])

    def test_two_refusals_at_once(self):
        refusals(self, with_64_groups(), "want", [
            ((4, -1, 0, []), -1), ((4, 300, 2, []), -1), ((3, -1, 2, []), -2), ((3, -1, 0, [2, 1]), -2),
            ((3, 300, 2, []), -3), ((3, 300, 0, [2, 1]), -3), ((3, 300, 2, [2, 1]), -3),
        ])

    def test_64_groups(self):
        driver = with_64_groups()
        refusals(self, driver, "want", [((3, 164, 0, []), -4), ((3, 99, 1, [5]), -4)])
        driver.ok("want", 3, 100, 1, [5]).ok("want", 3, 163, 0, [])
        refusals(self, driver, "want", [((3, 164, 0, []), -4)])
        driver.ok("host", 4, 0).ok("want", 4, 164, 0, [])

    def test_a_want_of_nothing_is_kept_and_counts(self):
        driver = with_host()
        for group in range(64):
            driver.ok("want", 3, group, 0, [])
        self.assertEqual(driver.call("want", 3, 64, 0, []), [-4])

    def test_64_groups_told_at_no_port(self):
        driver = with_host().ok("unhost", 3)
        for group in range(64):
            driver.ok("more", 3, group, [1])
        self.assertEqual(driver.call("more", 3, 64, [1]), [-4])
        self.assertEqual(driver.bag(), [])


class More(unittest.TestCase):
    def test_of_only(self):
        driver = with_host().ok("want", 3, 300, 0, [4, 8]).empty_bag().ok("more", 3, 300, [2, 4, 9])
        self.assertEqual(driver.host(3), (1, {300: (2, only(2, 4, 8, 9))}))
        self.assertEqual(driver.bag(), [("report", 3, 1, 300, 2, 0, allowing(2, 4, 9))])

    def test_of_but(self):
        driver = with_host().ok("want", 3, 300, 1, [4, 8]).empty_bag().ok("more", 3, 300, [2, 4, 9])
        self.assertEqual(driver.host(3), (1, {300: (2, but(8))}))
        self.assertEqual(driver.bag(), [("report", 3, 1, 300, 2, 0, allowing(2, 4, 9))])

    def test_of_a_new_group(self):
        driver = with_host().ok("more", 3, 300, [2])
        self.assertEqual(driver.host(3), (1, {300: (1, only(2))}))
        self.assertEqual(driver.bag(), [("report", 3, 1, 300, 1, 0, allowing(2))])

    def test_an_empty_row_is_told_too(self):
        driver = with_host().ok("more", 3, 300, [])
        self.assertEqual(driver.host(3), (1, {300: (1, only())}))
        self.assertEqual(driver.bag(), [("report", 3, 1, 300, 1, 0, allowing())])

    def test_growing_to_64_and_above(self):
        driver = with_host().ok("want", 3, 300, 0, ROW_64[:63])
        refusals(self, driver, "more", [((3, 300, [0, 1]), -5), ((3, 300, ROW_64[1:] + [74]), -5)])
        driver.ok("more", 3, 300, [9])
        refusals(self, driver, "more", [((3, 300, [8]), -5), ((3, 300, [9, 10, LAST_SOURCE]), -5)])
        driver.ok("more", 3, 300, [9, 10])
        self.assertEqual(driver.host(3)[1][300], (3, only(9, *ROW_64[:63])))

    def test_but_never_grows(self):
        driver = with_host().ok("want", 3, 300, 1, ROW_64).ok("more", 3, 300, list(range(100, 164)))
        self.assertEqual(driver.host(3)[1][300], (2, but(*ROW_64)))

    def test_growing_above_64_is_refused_at_no_port_too(self):
        driver = with_host().ok("want", 3, 300, 0, ROW_64).ok("unhost", 3)
        refusals(self, driver, "more", [((3, 300, [1]), -5)])


class Less(unittest.TestCase):
    def test_of_only(self):
        driver = with_host().ok("want", 3, 300, 0, [4, 8]).empty_bag().ok("less", 3, 300, [2, 4, 9])
        self.assertEqual(driver.host(3), (1, {300: (2, only(8))}))
        self.assertEqual(driver.bag(), [("report", 3, 1, 300, 2, 0, blocking(2, 4, 9))])

    def test_of_but(self):
        driver = with_host().ok("want", 3, 300, 1, [4, 8]).empty_bag().ok("less", 3, 300, [2, 4, 9])
        self.assertEqual(driver.host(3), (1, {300: (2, but(2, 4, 8, 9))}))
        self.assertEqual(driver.bag(), [("report", 3, 1, 300, 2, 0, blocking(2, 4, 9))])

    def test_of_a_new_group(self):
        driver = with_host().ok("less", 3, 300, [2])
        self.assertEqual(driver.host(3), (1, {300: (1, only())}))
        self.assertEqual(driver.bag(), [("report", 3, 1, 300, 1, 0, blocking(2))])

    def test_growing_to_64_and_above(self):
        driver = with_host().ok("want", 3, 300, 1, ROW_64[:63])
        refusals(self, driver, "less", [((3, 300, [0, 1]), -5)])
        driver.ok("less", 3, 300, [9])
        refusals(self, driver, "less", [((3, 300, [8]), -5)])
        driver.ok("less", 3, 300, [9, 10])
        self.assertEqual(driver.host(3)[1][300], (3, but(9, *ROW_64[:63])))

    def test_only_never_grows(self):
        driver = with_host().ok("want", 3, 300, 0, ROW_64).ok("less", 3, 300, list(range(100, 164)))
        self.assertEqual(driver.host(3)[1][300], (2, only(*ROW_64)))


class MoreAndLess(unittest.TestCase):
    def test_edges_that_are_taken(self):
        for name in ("more", "less"):
            for group in (0, 255, 256, LAST_GROUP):
                for sources in ([], [0], [LAST_SOURCE], [0, LAST_SOURCE], ROW_64):
                    driver = with_host().ok(name, 3, group, sources)
                    listed = tuple(sources) if name == "more" else ()
                    self.assertEqual(driver.host(3), (1, {group: (1, only(*listed))}))

    def test_refusals(self):
        for name in ("more", "less"):
            refusals(self, with_host(), name, [
                ((2, 300, []), -1), ((4, 300, []), -1), ((-1, 300, []), -1), ((HIGH, 300, []), -1),
                ((3, -1, []), -2), ((3, LAST_GROUP + 1, []), -2), ((3, LOW, []), -2), ((3, HIGH, []), -2),
            ])
            refusals(self, with_host(), name, [((3, 300, row), -3) for row in NO_ROWS])

    def test_64_groups(self):
        for name in ("more", "less"):
            driver = with_64_groups()
            refusals(self, driver, name, [((3, 164, [1]), -4), ((3, 99, []), -4)])
            driver.ok(name, 3, 163, [1])

    def test_two_refusals_at_once(self):
        for name, mode in (("more", 0), ("less", 1)):
            driver = with_64_groups().ok("want", 3, 100, mode, ROW_64).empty_bag()
            refusals(self, driver, name, [
                ((4, -1, []), -1), ((4, 300, [2, 1]), -1), ((3, -1, [2, 1]), -2),
                ((3, 300, [2, 1]), -3), ((3, 300, ROW_65), -3), ((3, 100, ROW_65), -3), ((3, 100, [5]), -5),
            ])
