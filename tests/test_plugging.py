import unittest

from tests.helper import HIGH, LOW, Driver, allowing, but, only, refusals, setting


class PlugIn(unittest.TestCase):
    def test_a_new_host_keeps_nothing_and_tells_nothing(self):
        driver = Driver().ok("host", 3, 1)
        self.assertEqual(driver.host(3), (1, {}))
        self.assertEqual(driver.bag(), [])

    def test_edges_of_port_and_host(self):
        Driver(ports=64).ok("host", 0, 63).ok("host", 65535, 0)
        Driver(ports=1).ok("host", 1, 0)
        driver = Driver(ports=5).ok("host", 3, 4)
        refusals(self, driver, "host", [
            ((7, -1), -1), ((7, 5), -1), ((7, LOW), -1), ((7, HIGH), -1),
            ((-1, 0), -2), ((65536, 0), -2), ((LOW, 0), -2), ((HIGH, 0), -2),
            ((3, 4), -3),
        ])

    def test_two_refusals_at_once(self):
        driver = Driver(ports=2).ok("host", 3, 0)
        refusals(self, driver, "host", [((-1, 2), -1), ((65536, -1), -1), ((3, 2), -1)])
        self.fill(driver)
        refusals(self, driver, "host", [((1000, 2), -1), ((65536, 0), -2), ((3, 0), -3)])

    def fill(self, driver):
        number = 0
        while len(driver.net.hosts) < 256:
            if number not in driver.net.hosts:
                driver.ok("host", number, number % 2)
            number += 1

    def test_256_hosts(self):
        driver = Driver(ports=2)
        self.fill(driver)
        refusals(self, driver, "host", [((256, 0), -4), ((65535, 1), -4)])
        driver.ok("host", 255, 0)
        driver.ok("unhost", 7)
        refusals(self, driver, "host", [((256, 0), -4)])
        driver.ok("host", 7, 1)

    def test_255_hosts_leave_place_for_one(self):
        driver = Driver(ports=2)
        for number in range(255):
            driver.ok("host", number, 0)
        driver.ok("host", 4000, 0)
        self.assertEqual(driver.call("host", 4001, 0), [-4])

    def test_moving_retells_each_group_rising(self):
        driver = Driver().ok("host", 3, 0)
        driver.ok("want", 3, 301, 0, [7]).ok("want", 3, 20, 1, []).ok("more", 3, 300, [1, 2]).ok("more", 3, 301, [8])
        driver.empty_bag().ok("tick", 4).empty_bag().ok("host", 3, 1)
        self.assertEqual(driver.bag(), [
            ("report", 3, 1, 20, 2, 4, setting(but())),
            ("report", 3, 1, 300, 2, 4, setting(only(1, 2))),
            ("report", 3, 1, 301, 3, 4, setting(only(7, 8))),
        ])
        self.assertEqual(driver.host(3), (1, {20: (2, but()), 300: (2, only(1, 2)), 301: (3, only(7, 8))}))

    def test_moving_retells_also_a_want_of_nothing(self):
        driver = Driver().ok("host", 3, 0).ok("want", 3, 5, 0, []).empty_bag().ok("host", 3, 1)
        self.assertEqual(driver.bag(), [("report", 3, 1, 5, 2, 0, setting(only()))])

    def test_moving_leaves_the_other_hosts_alone(self):
        driver = Driver().ok("host", 3, 0).ok("host", 4, 0).ok("want", 4, 5, 0, [1]).empty_bag().ok("host", 3, 1)
        self.assertEqual(driver.bag(), [])
        self.assertEqual(driver.host(4), (0, {5: (1, only(1))}))


class PlugOut(unittest.TestCase):
    def test_it_is_at_none_and_keeps_all_else(self):
        driver = Driver().ok("host", 3, 1).ok("want", 3, 300, 0, [7]).ok("deliver", 0)
        before = driver.state()
        driver.ok("unhost", 3)
        self.assertEqual(driver.host(3), (-1, {300: (1, only(7))}))
        after = driver.state()
        before.pop("hosts")
        after.pop("hosts")
        self.assertEqual(after, before)

    def test_refusals(self):
        driver = Driver().ok("host", 0, 0).ok("host", 65535, 0).ok("host", 3, 0).ok("unhost", 3)
        refusals(self, driver, "unhost", [
            ((3,), -2), ((1,), -1), ((-1,), -1), ((65536,), -1), ((LOW,), -1), ((HIGH,), -1),
        ])
        driver.ok("unhost", 0).ok("unhost", 65535)

    def test_one_below_and_above_a_host(self):
        refusals(self, Driver().ok("host", 3, 0), "unhost", [((2,), -1), ((4,), -1)])

    def test_telling_at_no_port(self):
        driver = Driver().ok("host", 3, 0).ok("want", 3, 300, 0, [7]).empty_bag().ok("unhost", 3)
        driver.ok("want", 3, 301, 1, [4]).ok("more", 3, 300, [8]).ok("less", 3, 301, [5]).ok("less", 3, 302, [5])
        self.assertEqual(driver.bag(), [])
        self.assertEqual(driver.net.lost, 0)
        self.assertEqual(driver.host(3), (-1, {300: (1, only(7, 8)), 301: (0, but(4, 5)), 302: (0, only())}))

    def test_plugged_in_again_at_the_same_port(self):
        driver = Driver().ok("host", 3, 0).ok("want", 3, 300, 0, [7]).empty_bag().ok("unhost", 3)
        driver.ok("more", 3, 300, [8]).ok("want", 3, 299, 1, []).ok("tick", 2).empty_bag().ok("host", 3, 0)
        self.assertEqual(driver.bag(), [
            ("report", 3, 0, 299, 1, 2, setting(but())),
            ("report", 3, 0, 300, 2, 2, setting(only(7, 8))),
        ])
        driver.empty_bag().ok("more", 3, 300, [9])
        self.assertEqual(driver.bag(), [("report", 3, 0, 300, 3, 2, allowing(9))])

    def test_a_query_does_not_reach_a_host_at_no_port(self):
        driver = Driver().ok("host", 3, 0).ok("want", 3, 300, 0, [7]).empty_bag().ok("unhost", 3)
        driver.ok("tick", 1).ok("deliver", 0).ok("deliver", 0)
        self.assertEqual(driver.bag(), [])
        self.assertEqual(driver.host(3), (-1, {300: (1, only(7))}))
