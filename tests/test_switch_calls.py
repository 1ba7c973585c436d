import unittest

from tests.helper import HIGH, LOW, Driver, only, refusals

LAST_GROUP = 2 ** 28 - 1
LAST_NUMBER = 2 ** 32 - 1

PORTS_AND_GROUPS = (
    ((-1, 300), -1), ((3, 300), -1), ((LOW, 300), -1), ((HIGH, 300), -1),
    ((0, -1), -2), ((0, LAST_GROUP + 1), -2), ((0, LOW), -2), ((0, HIGH), -2),
    ((-1, -1), -1), ((3, LAST_GROUP + 1), -1),
)


class Join(unittest.TestCase):
    def test_there_is_a_plain_one(self):
        driver = Driver(stay=10).ok("tick", 4).empty_bag().ok("join", 1, 300).ok("join", 0, 300).ok("join", 1, 301)
        self.assertEqual(driver.switch.plain, {(1, 300): 14, (0, 300): 14, (1, 301): 14})
        self.assertEqual(driver.bag(), [])
        self.assertEqual(driver.net.full, 0)

    def test_edges_that_are_taken(self):
        driver = Driver(ports=3)
        for port in (0, 2):
            for group in (0, 255, 256, LAST_GROUP):
                driver.ok("join", port, group)
                self.assertIn((port, group), driver.switch.plain)

    def test_refusals(self):
        refusals(self, Driver(ports=3).ok("join", 0, 300), "join", PORTS_AND_GROUPS)

    def test_refusals_come_before_the_room(self):
        driver = Driver(ports=3, entries=1).ok("join", 0, 300)
        refusals(self, driver, "join", PORTS_AND_GROUPS)

    def test_renewed(self):
        driver = Driver(stay=10).ok("join", 1, 300).ok("tick", 4).ok("join", 1, 300)
        self.assertEqual(driver.switch.plain, {(1, 300): 14})

    def test_renewed_behind_a_leave(self):
        driver = Driver(stay=10, last=2).ok("join", 1, 300).ok("leave", 1, 300).ok("join", 1, 300)
        self.assertEqual(driver.switch.plain, {(1, 300): 10})

    def test_without_room(self):
        driver = Driver(entries=2).ok("join", 1, 300).ok("join", 1, 301)
        before = driver.state()
        self.assertEqual(driver.call("join", 1, 302), [1])
        self.assertEqual(driver.net.full, 1)
        self.assertEqual(driver.call("join", 0, 300), [1])
        self.assertEqual(driver.net.full, 2)
        after = driver.state()
        self.assertEqual(after.pop("counts"), (0, 2))
        before.pop("counts")
        self.assertEqual(after, before)

    def test_entries_take_room_too(self):
        driver = Driver(entries=2).ok("host", 3, 0).ok("want", 3, 300, 0, [7]).ok("deliver", 0).ok("join", 1, 300)
        self.assertEqual(driver.call("join", 1, 301), [1])
        self.assertEqual(driver.call("join", 0, 300), [1])

    def test_renewed_without_room(self):
        driver = Driver(entries=2, stay=10).ok("join", 1, 300).ok("join", 1, 301).ok("tick", 4).ok("join", 1, 300)
        self.assertEqual(driver.switch.plain, {(1, 300): 14, (1, 301): 10})
        self.assertEqual(driver.net.full, 0)

    def test_room_again_when_one_is_gone(self):
        driver = Driver(entries=1, stay=10).ok("join", 1, 300)
        self.assertEqual(driver.call("join", 1, 301), [1])
        driver.ok("tick", 10).ok("join", 1, 301)
        self.assertEqual(driver.switch.plain, {(1, 301): 20})


class Leave(unittest.TestCase):
    def test_it_stays_a_little_and_the_switch_asks(self):
        driver = Driver(stay=10, last=3).ok("join", 1, 300).ok("join", 0, 300).ok("tick", 4).empty_bag()
        driver.ok("leave", 1, 300)
        self.assertEqual(driver.switch.plain, {(1, 300): 7, (0, 300): 10})
        self.assertEqual(driver.bag(), [("query", 1, 300)])

    def test_it_never_stays_longer_than_before(self):
        for last, until in ((5, 9), (6, 10), (7, 10), (1000000, 10)):
            driver = Driver(stay=10, last=last).ok("join", 1, 300).ok("tick", 4).ok("leave", 1, 300)
            self.assertEqual(driver.switch.plain, {(1, 300): until})

    def test_twice(self):
        driver = Driver(stay=10, last=3).ok("join", 1, 300).ok("leave", 1, 300).ok("tick", 1).empty_bag()
        driver.ok("leave", 1, 300)
        self.assertEqual(driver.switch.plain, {(1, 300): 3})
        self.assertEqual(driver.bag(), [("query", 1, 300)])

    def test_it_goes_at_the_very_second(self):
        driver = Driver(stay=10, last=3).ok("join", 1, 300).ok("leave", 1, 300).ok("tick", 2)
        self.assertEqual(driver.switch.plain, {(1, 300): 3})
        driver.ok("tick", 1)
        self.assertEqual(driver.switch.plain, {})

    def test_edges_that_are_taken(self):
        driver = Driver(ports=3)
        for port in (0, 2):
            for group in (0, LAST_GROUP):
                driver.ok("join", port, group).ok("leave", port, group)

    def test_refusals(self):
        driver = Driver(ports=3).ok("join", 0, 300)
        refusals(self, driver, "leave", PORTS_AND_GROUPS)
        refusals(self, driver, "leave", [((1, 300), -3), ((0, 299), -3), ((0, 301), -3)])

    def test_an_entry_is_no_plain_one(self):
        driver = Driver().ok("host", 3, 0).ok("want", 3, 300, 0, [7]).ok("deliver", 0)
        refusals(self, driver, "leave", [((0, 300), -3)])

    def test_with_the_bag_full(self):
        driver = Driver(bag=1, stay=10, last=3).ok("join", 0, 300).ok("leave", 0, 300).ok("join", 0, 300)
        driver.ok("leave", 0, 300)
        self.assertEqual(driver.switch.plain, {(0, 300): 3})
        self.assertEqual(driver.bag(), [("query", 0, 300)])
        self.assertEqual(driver.net.lost, 1)


class Foreign(unittest.TestCase):
    def test_a_lower_number_silences(self):
        driver = Driver(me=9, stay=10).ok("tick", 2).empty_bag().ok("foreign", 1, 8)
        self.assertEqual(driver.switch.heard, {1: 12})
        self.assertEqual(driver.switch.silent, 12)
        self.assertEqual(driver.bag(), [])

    def test_a_higher_number_does_not(self):
        driver = Driver(me=9, stay=10).ok("tick", 2).ok("foreign", 1, 10)
        self.assertEqual(driver.switch.heard, {1: 12})
        self.assertEqual(driver.switch.silent, 0)

    def test_a_higher_number_behind_a_lower_one(self):
        driver = Driver(me=9, stay=10).ok("foreign", 1, 0).ok("tick", 3).ok("foreign", 0, LAST_NUMBER)
        self.assertEqual(driver.switch.heard, {1: 10, 0: 13})
        self.assertEqual(driver.switch.silent, 10)

    def test_heard_again(self):
        driver = Driver(me=9, stay=10).ok("foreign", 1, 3).ok("tick", 3).ok("foreign", 1, 4)
        self.assertEqual(driver.switch.heard, {1: 13})
        self.assertEqual(driver.switch.silent, 13)

    def test_a_fixed_port_may_be_heard(self):
        driver = Driver().ok("asker", 1, 1).ok("foreign", 1, 3)
        self.assertEqual((driver.switch.fixed, driver.switch.heard), ({1: True}, {1: 10}))

    def test_refusals(self):
        driver = Driver(ports=3, me=9)
        refusals(self, driver, "foreign", [
            ((-1, 1), -1), ((3, 1), -1), ((LOW, 1), -1), ((HIGH, 1), -1),
            ((0, -1), -2), ((0, LAST_NUMBER + 1), -2), ((0, LOW), -2), ((0, HIGH), -2), ((0, 9), -2),
            ((3, -1), -1), ((-1, 9), -1),
        ])
        driver.ok("foreign", 0, 8).ok("foreign", 2, 10).ok("foreign", 0, 0).ok("foreign", 0, LAST_NUMBER)

    def test_me_at_the_edges(self):
        refusals(self, Driver(me=0), "foreign", [((0, 0), -2), ((0, -1), -2)])
        refusals(self, Driver(me=LAST_NUMBER), "foreign", [((0, LAST_NUMBER), -2), ((0, LAST_NUMBER + 1), -2)])


class Asker(unittest.TestCase):
    def test_told_and_taken_back(self):
        driver = Driver(ports=3).ok("asker", 2, 1).ok("asker", 0, 1)
        self.assertEqual(driver.switch.fixed, {2: True, 0: True})
        driver.ok("asker", 2, 1).ok("asker", 2, 0)
        self.assertEqual(driver.switch.fixed, {0: True})

    def test_taken_back_where_none_is(self):
        driver = Driver().ok("asker", 1, 0)
        self.assertEqual(driver.switch.fixed, {})

    def test_it_stays_whatever_the_time(self):
        driver = Driver(stay=1).ok("asker", 1, 1).ok("tick", 2 ** 62)
        self.assertEqual(driver.switch.fixed, {1: True})

    def test_refusals(self):
        refusals(self, Driver(ports=3).ok("asker", 1, 1), "asker", [
            ((-1, 0), -1), ((3, 0), -1), ((LOW, 1), -1), ((HIGH, 1), -1),
            ((1, -1), -2), ((1, 2), -2), ((1, LOW), -2), ((1, HIGH), -2),
            ((3, 2), -1), ((-1, -1), -1),
        ])
        Driver(ports=3).ok("asker", 0, 0).ok("asker", 2, 1)


class RoomOfBoth(unittest.TestCase):
    def test_the_most_entries(self):
        driver = Driver(ports=64, entries=4096)
        plain = driver.switch.plain
        for port in range(64):
            for group in range(64):
                plain[(port, group)] = 5
        self.assertEqual(driver.call("join", 0, 64), [1])
        plain.pop((0, 0))
        driver.ok("join", 0, 64)

    def test_the_two_are_added(self):
        driver = Driver(entries=3).ok("host", 3, 0).ok("want", 3, 300, 0, [7]).ok("deliver", 0)
        driver.ok("want", 3, 301, 0, [7]).ok("deliver", 0).ok("join", 0, 300)
        self.assertEqual(driver.call("join", 0, 301), [1])
        self.assertEqual(driver.entry(301, 3), (0, 1, only(7), 10))


class Ask(unittest.TestCase):
    def test_a_query_is_sent(self):
        driver = Driver(ports=3).ok("ask", 2, 300).ok("ask", 0, -1).ok("ask", 2, 300)
        self.assertEqual(driver.bag(), [("query", 2, 300), ("query", 0, -1), ("query", 2, 300)])

    def test_it_changes_nothing_else(self):
        driver = Driver(me=9).ok("foreign", 0, 3).ok("join", 1, 300)
        wanted = driver.state()
        wanted["bag"] = [("query", 1, 300)]
        self.assertEqual(driver.ok("ask", 1, 300).state(), wanted)

    def test_edges_that_are_taken(self):
        for port in (0, 2):
            for group in (-1, 0, 255, 256, LAST_GROUP):
                self.assertEqual(Driver(ports=3).ok("ask", port, group).bag(), [("query", port, group)])

    def test_refusals(self):
        refusals(self, Driver(ports=3), "ask", [
            ((-1, 300), -1), ((3, 300), -1), ((LOW, 300), -1), ((HIGH, -1), -1),
            ((0, -2), -2), ((0, LAST_GROUP + 1), -2), ((0, LOW), -2), ((0, HIGH), -2),
            ((3, -2), -1), ((-1, LAST_GROUP + 1), -1),
        ])

    def test_with_the_bag_full(self):
        driver = Driver(bag=1).ok("ask", 0, 300).ok("ask", 1, 301)
        self.assertEqual(driver.bag(), [("query", 0, 300)])
        self.assertEqual(driver.net.lost, 1)
        refusals(self, driver, "ask", [((2, 300), -1), ((0, -2), -2)])

    def test_delivered_the_hosts_retell(self):
        driver = Driver().ok("host", 3, 0).ok("want", 3, 301, 0, [7]).ok("want", 3, 300, 1, []).empty_bag()
        driver.ok("ask", 0, 301).ok("ask", 0, -1).ok("ask", 1, -1).ok("ask", 0, 302)
        for times in range(4):
            driver.ok("deliver", 0)
        self.assertEqual(driver.look("bag"), [
            0, 3,
            0, 3, 0, 301, 2, 0, 0, 0, 1, 7,
            0, 3, 0, 300, 2, 0, 0, 1, 0,
            0, 3, 0, 301, 3, 0, 0, 0, 1, 7,
        ])
        self.assertEqual(driver.look("hostof", 3), [0, 0, 2, 300, 2, 1, 0, 301, 3, 0, 1, 7])


class Restart(unittest.TestCase):
    def busy_driver(self):
        driver = Driver(ports=3, me=9, bag=4, entries=2).ok("host", 3, 0).ok("want", 3, 300, 0, [7]).ok("deliver", 0)
        driver.ok("join", 1, 301).ok("asker", 2, 1).ok("tick", 1).ok("foreign", 1, 4).ok("more", 3, 300, [8])
        driver.call("join", 1, 302)
        return driver.ok("ask", 0, 300)

    def test_the_switch_alone_begins_anew(self):
        driver = self.busy_driver()
        wanted = driver.state()
        for part, content in wanted.items():
            self.assertTrue(any(content), part)
        wanted["entries"] = {}
        wanted["plain"] = {}
        wanted["heard"] = {}
        wanted["times"] = (1, 0, 0)
        self.assertEqual(wanted["counts"], (1, 1))
        self.assertEqual(driver.ok("restart").state(), wanted)
        self.assertEqual(driver.ok("restart").state(), wanted)

    def test_seen_through_the_calls(self):
        driver = self.busy_driver()
        self.assertEqual(driver.look("counts"), [0, 1, 1, 1, 1, 1, 10, 5, 4])
        driver.ok("restart")
        self.assertEqual(driver.look("counts"), [0, 1, 1, 1, 0, 0, 0, 0, 4])
        self.assertEqual(driver.look("entry", 3, 300), [-1])
        self.assertEqual(driver.look("upward", 301), [0, 0, 0])
        self.assertEqual(driver.look("frame", 0, 301, 7), [0, 1, 2, 0])
        self.assertEqual(driver.look("hostof", 3), [0, 0, 1, 300, 2, 0, 2, 7, 8])

    def test_nothing_there_yet(self):
        self.assertEqual(Driver().ok("restart").state(), Driver().state())

    def test_the_next_tick_asks(self):
        driver = Driver(me=9, every=50).ok("tick", 1).empty_bag().ok("foreign", 0, 3).ok("restart").ok("tick", 1)
        self.assertEqual(driver.bag(), [("query", 0, -1), ("query", 1, -1)])
        self.assertEqual(driver.look("counts"), [0, 2, 0, 0, 0, 0, 0, 50, 2])

    def test_there_is_room_as_told_by_begin(self):
        driver = Driver(entries=2).ok("join", 0, 300).ok("join", 0, 301).ok("restart").ok("join", 1, 1).ok("join", 1, 2)
        self.assertEqual(driver.call("join", 1, 3), [1])

    def test_a_step_upon_what_is_forgotten_asks_back(self):
        driver = Driver().ok("host", 3, 0).ok("want", 3, 300, 0, [7]).ok("deliver", 0).ok("restart")
        driver.ok("more", 3, 300, [8]).ok("deliver", 0)
        self.assertEqual(driver.look("bag"), [0, 1, 1, 0, 300])
        driver.ok("deliver", 0).ok("deliver", 0)
        self.assertEqual(driver.look("entry", 3, 300), [0, 0, 3, 10, 0, 2, 7, 8])

    def test_a_late_report_is_taken_behind_it(self):
        driver = Driver().ok("host", 3, 0).ok("want", 3, 300, 0, [7]).ok("want", 3, 300, 0, [8]).ok("deliver", 1)
        driver.ok("restart").ok("deliver", 0)
        self.assertEqual(driver.look("entry", 3, 300), [0, 0, 1, 10, 0, 1, 7])
