import unittest

from tests.helper import HIGH, LOW, Driver, only, refusals

END = 2 ** 62


def queries(ports):
    return [("query", port, -1) for port in range(ports)]


class Clock(unittest.TestCase):
    def test_it_adds_up(self):
        driver = Driver().ok("tick", 3).ok("tick", 4)
        self.assertEqual(driver.net.now, 7)

    def test_edges(self):
        driver = Driver()
        refusals(self, driver, "tick", [((0,), -1), ((-1,), -1), ((END + 1,), -1), ((LOW,), -1), ((HIGH,), -1)])
        driver.ok("tick", 1)
        refusals(self, driver, "tick", [((END,), -2), ((END + 1,), -1), ((0,), -1)])
        driver.ok("tick", END - 2)
        refusals(self, driver, "tick", [((2,), -2)])
        driver.ok("tick", 1)
        self.assertEqual(driver.net.now, END)
        refusals(self, driver, "tick", [((1,), -2), ((END,), -2), ((END + 1,), -1), ((0,), -1)])

    def test_all_the_way_at_once(self):
        driver = Driver().ok("tick", END)
        self.assertEqual(driver.net.now, END)
        self.assertEqual(driver.switch.next_query, END + 5)

    def test_times_may_be_later_than_now_may_be(self):
        driver = Driver(stay=10, every=5, me=9).ok("tick", END).empty_bag()
        driver.ok("join", 0, 300).ok("foreign", 1, 3).ok("host", 3, 0).ok("want", 3, 300, 0, [7]).ok("deliver", 0)
        self.assertEqual(driver.switch.plain, {(0, 300): END + 10})
        self.assertEqual(driver.switch.heard, {1: END + 10})
        self.assertEqual(driver.switch.silent, END + 10)
        self.assertEqual(driver.entry(300, 3), (0, 1, only(7), END + 10))
        refusals(self, driver, "tick", [((1,), -2)])


class WhatGoes(unittest.TestCase):
    def full_driver(self):
        driver = Driver(stay=10).ok("join", 1, 300).ok("foreign", 1, 20).ok("asker", 0, 1)
        return driver.ok("host", 3, 0).ok("want", 3, 300, 0, [7]).ok("deliver", 0)

    def test_one_second_before(self):
        driver = self.full_driver().ok("tick", 9)
        self.assertEqual(driver.switch.plain, {(1, 300): 10})
        self.assertEqual(driver.switch.heard, {1: 10})
        self.assertEqual(driver.entry(300, 3), (0, 1, only(7), 10))

    def test_at_the_very_second(self):
        driver = self.full_driver().ok("tick", 9).ok("tick", 1)
        self.assertEqual((driver.switch.plain, driver.switch.heard, driver.switch.entries), ({}, {}, {}))
        self.assertEqual(driver.switch.fixed, {0: True})
        self.assertEqual(driver.host(3), (0, {300: (1, only(7))}))

    def test_long_after(self):
        driver = self.full_driver().ok("tick", 1000)
        self.assertEqual((driver.switch.plain, driver.switch.heard, driver.switch.entries), ({}, {}, {}))

    def test_only_those_whose_time_has_come(self):
        driver = self.full_driver().ok("tick", 1).empty_bag().ok("join", 0, 300).ok("foreign", 0, 20)
        driver.ok("want", 3, 301, 0, [8]).ok("deliver", 0).ok("tick", 9)
        self.assertEqual(driver.switch.plain, {(0, 300): 11})
        self.assertEqual(driver.switch.heard, {0: 11})
        self.assertEqual(list(driver.switch.entries), [(301, 3)])

    def test_the_bag_stays(self):
        driver = Driver(stay=10).ok("host", 3, 0).ok("want", 3, 300, 0, [7])
        before = driver.bag()
        driver.ok("tick", 1000)
        self.assertEqual(driver.bag(), before + queries(2))


class Asking(unittest.TestCase):
    def test_the_first_tick_asks_each_port_rising(self):
        driver = Driver(ports=3, every=5).ok("tick", 2)
        self.assertEqual(driver.bag(), queries(3))
        self.assertEqual(driver.switch.next_query, 7)

    def test_next_at_the_very_second(self):
        driver = Driver(every=5).ok("tick", 2).empty_bag().ok("tick", 4)
        self.assertEqual(driver.bag(), [])
        self.assertEqual(driver.switch.next_query, 7)
        driver.ok("tick", 1)
        self.assertEqual(driver.bag(), queries(2))
        self.assertEqual(driver.switch.next_query, 12)

    def test_once_a_tick_however_long(self):
        driver = Driver(every=5).ok("tick", 1).empty_bag().ok("tick", 100)
        self.assertEqual(driver.bag(), queries(2))
        self.assertEqual(driver.switch.next_query, 106)

    def test_silent_until_the_very_second(self):
        driver = Driver(me=9, stay=10, every=5).ok("foreign", 0, 8).ok("tick", 9)
        self.assertEqual(driver.bag(), [])
        self.assertEqual((driver.switch.silent, driver.switch.next_query), (10, 0))
        driver.ok("tick", 1)
        self.assertEqual(driver.bag(), queries(2))
        self.assertEqual((driver.switch.silent, driver.switch.next_query), (10, 15))

    def test_not_silent_behind_a_higher_number(self):
        self.assertEqual(Driver(me=9).ok("foreign", 0, 10).ok("tick", 1).bag(), queries(2))

    def test_silent_is_over_but_next_is_not(self):
        driver = Driver(me=9, stay=2, every=5).ok("tick", 1).empty_bag().ok("foreign", 0, 8).ok("tick", 4)
        self.assertEqual(driver.bag(), [])
        driver.ok("tick", 1)
        self.assertEqual(driver.bag(), queries(2))

    def test_what_the_bag_has_no_place_for_is_lost(self):
        driver = Driver(ports=5, bag=3).ok("tick", 1)
        self.assertEqual(driver.bag(), queries(3))
        self.assertEqual(driver.net.lost, 2)
        self.assertEqual(driver.switch.next_query, 6)

    def test_64_ports(self):
        self.assertEqual(Driver(ports=64).ok("tick", 1).bag(), queries(64))
