import unittest

from tests.helper import HIGH, LOW, Driver, refusals, with_entries

LAST_GROUP = 2 ** 28 - 1
LAST_SOURCE = 2 ** 32 - 1


class Refusals(unittest.TestCase):
    def test_refusals(self):
        driver = with_entries((3, 0, 1, []), ports=3).ok("asker", 1, 1)
        refusals(self, driver, "frame", [
            ((-1, 300, 7), -1), ((3, 300, 7), -1), ((LOW, 300, 7), -1), ((HIGH, 300, 7), -1),
            ((0, -1, 7), -2), ((0, LAST_GROUP + 1, 7), -2), ((0, LOW, 7), -2), ((0, HIGH, 7), -2),
            ((0, 300, -1), -2), ((0, 300, LAST_SOURCE + 1), -2), ((0, 300, LOW), -2), ((0, 300, HIGH), -2),
            ((3, -1, 7), -1), ((-1, 300, -1), -1), ((0, -1, -1), -2),
        ])

    def test_edges_that_are_taken(self):
        driver = Driver(ports=3)
        for port in (0, 2):
            for group in (256, LAST_GROUP):
                for source in (0, LAST_SOURCE):
                    self.assertEqual(driver.look("frame", port, group, source), [0, 0, 0])


class Ports(unittest.TestCase):
    def test_local_groups_go_to_all_others(self):
        driver = Driver(ports=4)
        for group in (0, 1, 255):
            self.assertEqual(driver.look("frame", 2, group, 7), [0, 3, 0, 1, 3, 0])
        self.assertEqual(driver.look("frame", 2, 256, 7), [0, 0, 0])

    def test_one_port_alone(self):
        driver = Driver(ports=1).ok("asker", 0, 1).ok("host", 3, 0).ok("want", 3, 5, 1, [])
        self.assertEqual(driver.look("frame", 0, 5, 7), [0, 0, 0])

    def test_64_ports_rising(self):
        self.assertEqual(Driver(ports=64).look("frame", 63, 0, 7), [0, 63] + list(range(63)) + [0])

    def test_fixed(self):
        driver = Driver(ports=4).ok("asker", 3, 1).ok("asker", 1, 1)
        self.assertEqual(driver.look("frame", 0, 300, 7), [0, 2, 1, 3, 0])
        self.assertEqual(driver.look("frame", 1, 300, 7), [0, 1, 3, 0])
        driver.ok("asker", 3, 0)
        self.assertEqual(driver.look("frame", 0, 300, 7), [0, 1, 1, 0])

    def test_heard_until_the_very_second(self):
        driver = Driver(ports=3, me=9, stay=10).ok("foreign", 2, 3).ok("foreign", 1, 12).ok("tick", 9)
        self.assertEqual(driver.look("frame", 0, 300, 7), [0, 2, 1, 2, 0])
        driver.ok("tick", 1)
        self.assertEqual(driver.look("frame", 0, 300, 7), [0, 0, 0])

    def test_the_record_only(self):
        driver = with_entries((3, 1, 0, [7, 8]), ports=3)
        for source, wanted in ((6, [0, 0, 0]), (7, [0, 1, 1, 1, 3]), (8, [0, 1, 1, 1, 3]), (9, [0, 0, 0])):
            self.assertEqual(driver.look("frame", 0, 300, source), wanted)
        self.assertEqual(driver.look("frame", 1, 300, 7), [0, 0, 0])
        self.assertEqual(driver.look("frame", 0, 301, 7), [0, 0, 0])

    def test_the_record_but(self):
        driver = with_entries((3, 1, 1, [0, 8]), ports=3)
        for source, wanted in ((0, [0, 0, 0]), (7, [0, 1, 1, 1, 3]), (8, [0, 0, 0]), (LAST_SOURCE, [0, 1, 1, 1, 3])):
            self.assertEqual(driver.look("frame", 2, 300, source), wanted)

    def test_the_record_of_a_plain_one(self):
        driver = Driver(ports=3, stay=10).ok("join", 2, 300)
        self.assertEqual(driver.look("frame", 0, 300, 7), [0, 1, 2, 0])
        self.assertEqual(driver.look("frame", 0, 301, 7), [0, 0, 0])
        driver.ok("tick", 10)
        self.assertEqual(driver.look("frame", 0, 300, 7), [0, 0, 0])

    def test_a_port_counts_once(self):
        driver = with_entries((3, 1, 1, []), (4, 1, 0, [7]), ports=2).ok("join", 1, 300).ok("asker", 1, 1)
        driver.ok("foreign", 1, 3)
        self.assertEqual(driver.look("frame", 0, 300, 7), [0, 1, 1, 2, 3, 4])


class Hosts(unittest.TestCase):
    def test_rising_over_the_ports(self):
        driver = with_entries((9, 1, 1, []), (5, 2, 0, [7]), (2, 1, 0, [7]), (7, 0, 1, []), (6, 2, 1, [7]), ports=3)
        self.assertEqual(driver.look("frame", 0, 300, 7), [0, 2, 1, 2, 3, 2, 5, 9])
        self.assertEqual(driver.look("frame", 1, 300, 7), [0, 2, 0, 2, 2, 5, 7])
        self.assertEqual(driver.look("frame", 0, 300, 8), [0, 2, 1, 2, 2, 6, 9])

    def test_a_host_at_the_port_from_which_it_came_takes_nothing(self):
        driver = with_entries((3, 1, 1, []), (4, 0, 1, []))
        self.assertEqual(driver.look("frame", 1, 300, 7), [0, 1, 0, 1, 4])

    def test_its_own_want_counts_not_the_entry(self):
        driver = with_entries((3, 1, 0, [7]), (4, 1, 1, [])).ok("want", 3, 300, 0, [8]).ok("less", 4, 300, [7])
        self.assertEqual(driver.look("frame", 0, 300, 7), [0, 1, 1, 0])
        self.assertEqual(driver.look("frame", 0, 300, 8), [0, 1, 1, 2, 3, 4])

    def test_what_is_wanted_but_not_reported_does_not_come(self):
        driver = Driver().ok("host", 3, 1).ok("want", 3, 300, 0, [7])
        self.assertEqual(driver.look("frame", 0, 300, 7), [0, 0, 0])

    def test_given_for_another_s_sake(self):
        driver = Driver().ok("host", 3, 1).ok("want", 3, 300, 0, [7]).ok("asker", 1, 1)
        self.assertEqual(driver.look("frame", 0, 300, 7), [0, 1, 1, 1, 3])
        self.assertEqual(driver.look("frame", 0, 300, 8), [0, 1, 1, 0])

    def test_a_host_without_a_want_of_the_group_takes_nothing(self):
        driver = Driver().ok("host", 3, 1).ok("host", 4, 1).ok("want", 4, 5, 1, [])
        self.assertEqual(driver.look("frame", 0, 5, 7), [0, 1, 1, 1, 4])
        self.assertEqual(driver.look("frame", 0, 6, 7), [0, 1, 1, 0])

    def test_at_no_port(self):
        driver = with_entries((3, 1, 1, [])).ok("unhost", 3)
        self.assertEqual(driver.look("frame", 0, 300, 7), [0, 1, 1, 0])

    def test_behind_a_move(self):
        driver = with_entries((3, 1, 1, []), ports=3).ok("host", 3, 2)
        self.assertEqual(driver.look("frame", 0, 300, 7), [0, 1, 1, 0])
        driver.ok("deliver", 0)
        self.assertEqual(driver.look("frame", 0, 300, 7), [0, 1, 2, 1, 3])
        self.assertEqual(driver.look("frame", 2, 300, 7), [0, 0, 0])
