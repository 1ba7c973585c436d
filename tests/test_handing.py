import unittest

from groupsnoop.messages import Query, Report
from tests.helper import Driver, allowing, blocking, but, only, setting


def handed(driver, *report):
    """Hands over a report that is laid into the bag by hand."""
    driver.net.bag.insert(0, Report(*report))
    return driver.ok("deliver", 0)


def asked(driver, port, group):
    driver.net.bag.insert(0, Query(port, group))
    return driver.ok("deliver", 0)


def with_entry(step=setting(only(4, 8)), **told):
    """Host 3 at port 1 has the entry of group 300 with the serial 5, told at 0."""
    return handed(Driver(stay=10, **told), 3, 1, 300, 5, 0, step)


class NoEntry(unittest.TestCase):
    def test_set_makes_one(self):
        driver = Driver(stay=10).ok("tick", 2).empty_bag()
        handed(driver, 3, 1, 300, 5, 1, setting(but(2)))
        self.assertEqual(driver.entry(300, 3), (1, 5, but(2), 11))
        self.assertEqual(list(driver.switch.entries), [(300, 3)])
        self.assertEqual(driver.bag(), [])

    def test_set_of_nothing_makes_one_too(self):
        self.assertEqual(with_entry(setting(only())).entry(300, 3), (1, 5, only(), 10))

    def test_entries_of_others_are_not_this_one(self):
        driver = with_entry()
        handed(driver, 4, 1, 300, 1, 0, setting(only(1)))
        handed(driver, 3, 1, 301, 1, 0, setting(only(2)))
        self.assertEqual(driver.entry(300, 3), (1, 5, only(4, 8), 10))
        self.assertEqual(driver.entry(300, 4), (1, 1, only(1), 10))
        self.assertEqual(driver.entry(301, 3), (1, 1, only(2), 10))

    def test_set_without_room(self):
        driver = Driver(entries=1).ok("join", 0, 300)
        before = driver.state()
        handed(driver, 3, 1, 300, 1, 0, setting(only(7)))
        before["counts"] = (0, 1)
        self.assertEqual(driver.state(), before)

    def test_set_with_the_last_room(self):
        driver = Driver(entries=2).ok("join", 0, 300)
        handed(driver, 3, 1, 300, 1, 0, setting(only(7)))
        self.assertEqual(driver.net.full, 0)
        handed(driver, 4, 1, 300, 1, 0, setting(only(7)))
        self.assertEqual(driver.net.full, 1)
        self.assertEqual(list(driver.switch.entries), [(300, 3)])

    def test_allow_and_block_ask_back(self):
        for step in (allowing(1), blocking(1), allowing(), blocking()):
            driver = handed(Driver(), 3, 1, 300, 1, 0, step)
            self.assertEqual(driver.switch.entries, {})
            self.assertEqual(driver.bag(), [("query", 1, 300)])

    def test_allow_and_block_without_room_ask_back_too(self):
        for step in (allowing(1), blocking(1)):
            driver = handed(Driver(entries=1).ok("join", 0, 300), 3, 1, 300, 1, 0, step)
            self.assertEqual(driver.net.full, 0)
            self.assertEqual(driver.bag(), [("query", 1, 300)])


class TooOld(unittest.TestCase):
    def test_without_an_entry(self):
        for step in (setting(only(7)), allowing(7), blocking(7)):
            for ticks in (10, 11):
                driver = Driver(stay=10).ok("tick", ticks).empty_bag()
                before = driver.state()
                handed(driver, 3, 1, 300, 1, 0, step)
                self.assertEqual(driver.state(), before)

    def test_without_an_entry_and_without_room(self):
        driver = Driver(stay=10, entries=1).ok("tick", 10).ok("join", 0, 300).empty_bag()
        handed(driver, 3, 1, 300, 1, 0, setting(only(7)))
        self.assertEqual(driver.net.full, 0)

    def test_with_an_entry(self):
        for step in (setting(only(7)), allowing(7), blocking(7)):
            driver = Driver(stay=10).ok("tick", 10).empty_bag()
            handed(driver, 3, 1, 300, 1, 10, setting(only(4)))
            before = driver.state()
            handed(driver, 3, 1, 300, 2, 0, step)
            self.assertEqual(driver.state(), before)

    def test_one_second_before(self):
        driver = handed(Driver(stay=10).ok("tick", 9).empty_bag(), 3, 1, 300, 1, 0, setting(only(7)))
        self.assertEqual(driver.entry(300, 3), (1, 1, only(7), 10))
        driver = handed(Driver(stay=10).ok("tick", 9).empty_bag(), 3, 1, 300, 1, 0, allowing(7))
        self.assertEqual(driver.bag(), [("query", 1, 300)])


class WithAnEntry(unittest.TestCase):
    def test_doubled_or_late(self):
        for serial in (0, 1, 4, 5):
            for port in (0, 1):
                for step in (setting(only(7)), allowing(7), blocking(4)):
                    driver = with_entry()
                    before = driver.state()
                    handed(driver, 3, port, 300, serial, 0, step)
                    self.assertEqual(driver.state(), before)

    def test_set_takes_its_place(self):
        for serial in (6, 7, 100):
            for port in (0, 1):
                driver = with_entry().ok("tick", 3).empty_bag()
                handed(driver, 3, port, 300, serial, 2, setting(but(7)))
                self.assertEqual(driver.entry(300, 3), (port, serial, but(7), 12))
                self.assertEqual(driver.bag(), [])

    def test_set_takes_its_place_without_room(self):
        driver = handed(with_entry(entries=1), 3, 0, 300, 9, 0, setting(only(7)))
        self.assertEqual(driver.entry(300, 3), (0, 9, only(7), 10))
        self.assertEqual(driver.net.full, 0)

    def test_allow_and_block_that_follow(self):
        cases = (
            (only(4, 8), allowing(2, 4), only(2, 4, 8)),
            (but(4, 8), allowing(2, 4), but(8)),
            (only(4, 8), blocking(2, 4), only(8)),
            (but(4, 8), blocking(2, 4), but(2, 4, 8)),
        )
        for want, step, wanted in cases:
            driver = with_entry(setting(want), entries=1).ok("tick", 3).empty_bag()
            handed(driver, 3, 1, 300, 6, 2, step)
            self.assertEqual(driver.entry(300, 3), (1, 6, wanted, 12))
            self.assertEqual(driver.bag(), [])

    def test_a_serial_passed_over(self):
        for step in (allowing(7), blocking(4)):
            for serial in (7, 8, 100):
                driver = with_entry()
                before = driver.state()
                handed(driver, 3, 1, 300, serial, 0, step)
                before["bag"] = [("query", 1, 300)]
                self.assertEqual(driver.state(), before)

    def test_from_another_port(self):
        for step in (allowing(7), blocking(4)):
            for serial in (6, 7):
                driver = with_entry()
                before = driver.state()
                handed(driver, 3, 0, 300, serial, 0, step)
                before["bag"] = [("query", 0, 300)]
                self.assertEqual(driver.state(), before)

    def test_asking_back_with_the_bag_full(self):
        driver = with_entry(bag=1)
        driver.net.bag.append(Query(0, 5))
        driver.net.bag.append(Report(3, 1, 300, 9, 0, allowing(7)))
        driver.ok("deliver", 1)
        self.assertEqual(driver.bag(), [("query", 0, 5)])
        self.assertEqual(driver.net.lost, 1)

    def test_the_hosts_do_not_learn_of_a_report(self):
        driver = Driver().ok("host", 3, 1).ok("want", 3, 300, 0, [7])
        before = driver.host(3)
        driver.ok("deliver", 0)
        self.assertEqual(driver.host(3), before)


class Asked(unittest.TestCase):
    def three_hosts(self):
        driver = Driver(ports=3).ok("host", 8, 1).ok("host", 3, 1).ok("host", 5, 2)
        for number in (8, 3, 5):
            driver.ok("want", number, 301, 0, [number]).ok("want", number, 300, 1, [number])
        return driver.ok("tick", 4).empty_bag()

    def test_one_group(self):
        driver = asked(self.three_hosts(), 1, 300)
        self.assertEqual(driver.bag(), [
            ("report", 3, 1, 300, 2, 4, setting(but(3))),
            ("report", 8, 1, 300, 2, 4, setting(but(8))),
        ])
        self.assertEqual(driver.host(3), (1, {301: (1, only(3)), 300: (2, but(3))}))
        self.assertEqual(driver.host(5), (2, {301: (1, only(5)), 300: (1, but(5))}))

    def test_all_groups(self):
        driver = asked(self.three_hosts(), 1, -1)
        self.assertEqual(driver.bag(), [
            ("report", 3, 1, 300, 2, 4, setting(but(3))),
            ("report", 3, 1, 301, 2, 4, setting(only(3))),
            ("report", 8, 1, 300, 2, 4, setting(but(8))),
            ("report", 8, 1, 301, 2, 4, setting(only(8))),
        ])

    def test_a_group_that_none_keeps(self):
        driver = self.three_hosts()
        before = driver.state()
        asked(driver, 1, 302)
        self.assertEqual(driver.state(), before)

    def test_a_port_without_hosts(self):
        driver = self.three_hosts()
        before = driver.state()
        asked(driver, 0, -1)
        asked(driver, 0, 300)
        self.assertEqual(driver.state(), before)

    def test_a_want_of_nothing_is_retold(self):
        driver = asked(Driver().ok("host", 3, 1).ok("want", 3, 300, 0, []).empty_bag(), 1, 300)
        self.assertEqual(driver.bag(), [("report", 3, 1, 300, 2, 0, setting(only()))])

    def test_group_0_is_not_all(self):
        driver = asked(self.three_hosts().ok("want", 3, 0, 0, [1]).empty_bag(), 1, 0)
        self.assertEqual(driver.bag(), [("report", 3, 1, 0, 2, 4, setting(only(1)))])

    def test_a_query_that_comes_behind_a_move(self):
        driver = Driver().ok("host", 3, 1).ok("want", 3, 300, 0, [7]).empty_bag().ok("tick", 1).ok("host", 3, 0)
        driver.ok("deliver", 2).ok("deliver", 1)
        self.assertEqual(driver.bag(), [("query", 0, -1)])
        self.assertEqual(driver.entry(300, 3), (0, 2, only(7), 11))


class Together(unittest.TestCase):
    def test_a_lost_step_is_mended_by_asking_back(self):
        driver = Driver().ok("host", 3, 0).ok("want", 3, 300, 0, [7]).ok("deliver", 0)
        driver.ok("more", 3, 300, [8]).ok("lose", 0).ok("more", 3, 300, [9]).ok("deliver", 0)
        self.assertEqual(driver.entry(300, 3), (0, 1, only(7), 10))
        driver.ok("deliver", 0).ok("deliver", 0)
        self.assertEqual(driver.entry(300, 3), (0, 4, only(7, 8, 9), 10))
        self.assertEqual(driver.bag(), [])

    def test_reports_in_the_wrong_order(self):
        driver = Driver().ok("host", 3, 0).ok("want", 3, 300, 0, [7]).ok("want", 3, 300, 1, [8])
        driver.ok("deliver", 1).ok("deliver", 0)
        self.assertEqual(driver.entry(300, 3), (0, 2, but(8), 10))

    def test_a_move_takes_the_entry_along(self):
        driver = Driver().ok("host", 3, 0).ok("want", 3, 300, 0, [7]).ok("deliver", 0).ok("host", 3, 1)
        self.assertEqual(driver.entry(300, 3), (0, 1, only(7), 10))
        driver.ok("deliver", 0)
        self.assertEqual(driver.entry(300, 3), (1, 2, only(7), 10))

    def test_the_document_s_first_example(self):
        driver = Driver(2, 9, 10, 5, 1, 4, 4).ok("host", 3, 0).ok("want", 3, 300, 0, [7, 8])
        self.assertEqual(driver.bag(), [("report", 3, 0, 300, 1, 0, setting(only(7, 8)))])
        driver.ok("deliver", 0).ok("more", 3, 300, [9]).ok("deliver", 0)
        self.assertEqual(driver.entry(300, 3), (0, 2, only(7, 8, 9), 10))
        driver.ok("tick", 10)
        state = driver.state()
        self.assertEqual((state["times"], state["counts"], state["entries"]), ((10, 0, 15), (0, 0), {}))
        self.assertEqual(state["bag"], [("query", 0, -1), ("query", 1, -1)])
