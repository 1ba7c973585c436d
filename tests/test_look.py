"""The calls that look at what there is; the helper's look sees to it that they change nothing."""

import unittest

from tests.helper import HIGH, LOW, Driver, refusals, with_entries

LAST_GROUP = 2 ** 28 - 1
END = 2 ** 62


class Record(unittest.TestCase):
    def test_refusals(self):
        refusals(self, with_entries((3, 0, 1, []), ports=3), "record", [
            ((-1, 300), -1), ((3, 300), -1), ((LOW, 300), -1), ((HIGH, 300), -1),
            ((0, -1), -2), ((0, LAST_GROUP + 1), -2), ((0, LOW), -2), ((0, HIGH), -2),
            ((3, -1), -1), ((-1, LAST_GROUP + 1), -1),
        ])

    def test_none_is_nothing(self):
        driver = with_entries((3, 0, 1, []), ports=3).ok("join", 0, 302)
        for port, group in ((1, 300), (0, 301), (0, 0), (2, LAST_GROUP), (1, 302)):
            self.assertEqual(driver.look("record", port, group), [0, 0, 0])

    def test_one(self):
        self.assertEqual(with_entries((3, 1, 0, [7, 8])).look("record", 1, 300), [0, 0, 2, 7, 8])
        self.assertEqual(with_entries((3, 1, 1, [7, 8])).look("record", 1, 300), [0, 1, 2, 7, 8])
        self.assertEqual(with_entries((3, 1, 0, [])).look("record", 1, 300), [0, 0, 0])

    def test_only_and_only(self):
        driver = with_entries((3, 1, 0, [7, 9]), (4, 1, 0, [8, 9, 10]), (5, 0, 0, [1]), (6, 1, 0, []))
        self.assertEqual(driver.look("record", 1, 300), [0, 0, 4, 7, 8, 9, 10])
        self.assertEqual(driver.look("record", 0, 300), [0, 0, 1, 1])

    def test_only_and_but_in_either_order(self):
        one = (3, 1, 0, [2, 7, 9])
        other = (4, 1, 1, [1, 2, 9, 10])
        for told in ((one, other), (other, one)):
            self.assertEqual(with_entries(*told).look("record", 1, 300), [0, 1, 2, 1, 10])

    def test_but_and_but(self):
        driver = with_entries((3, 1, 1, [1, 2, 3]), (4, 1, 1, [2, 3, 4]))
        self.assertEqual(driver.look("record", 1, 300), [0, 1, 2, 2, 3])

    def test_many_in_any_order(self):
        told = [(1, 1, 0, [2]), (2, 1, 1, [1, 2, 3, 4]), (3, 1, 0, [9]), (4, 1, 1, [0, 2, 3, 4]), (5, 1, 0, [4, 5])]
        for turn in range(5):
            self.assertEqual(with_entries(*told[turn:], *told[:turn]).look("record", 1, 300), [0, 1, 1, 3])

    def test_a_plain_one_is_everything(self):
        driver = with_entries((3, 1, 0, [7]), (4, 1, 1, [8]), ports=3).ok("join", 1, 300).ok("join", 2, 300)
        self.assertEqual(driver.look("record", 1, 300), [0, 1, 0])
        self.assertEqual(driver.look("record", 2, 300), [0, 1, 0])
        self.assertEqual(driver.look("record", 0, 300), [0, 0, 0])

    def test_fixed_heard_and_local_change_no_record(self):
        driver = Driver().ok("asker", 1, 1).ok("foreign", 1, 3)
        self.assertEqual(driver.look("record", 1, 300), [0, 0, 0])
        self.assertEqual(driver.look("record", 1, 5), [0, 0, 0])

    def test_more_than_64_in_the_list(self):
        driver = with_entries((3, 1, 0, list(range(100, 164))), (4, 1, 0, list(range(0, 128, 2))))
        wanted = sorted(set(range(100, 164)) | set(range(0, 128, 2)))
        self.assertEqual(driver.look("record", 1, 300), [0, 0, len(wanted)] + wanted)

    def test_it_goes_with_its_entries(self):
        driver = with_entries((3, 1, 0, [7]), stay=10).ok("tick", 4).empty_bag()
        driver.ok("host", 4, 1).ok("want", 4, 300, 0, [8]).ok("deliver", 0).ok("tick", 6)
        self.assertEqual(driver.look("record", 1, 300), [0, 0, 1, 8])
        driver.ok("tick", 4)
        self.assertEqual(driver.look("record", 1, 300), [0, 0, 0])


class Upward(unittest.TestCase):
    def test_refusals(self):
        refusals(self, Driver().ok("join", 0, 300), "upward", [
            ((-1,), -1), ((LAST_GROUP + 1,), -1), ((LOW,), -1), ((HIGH,), -1),
        ])

    def test_edges_that_are_taken(self):
        for group in (0, 255, 256, LAST_GROUP):
            self.assertEqual(Driver().look("upward", group), [0, 0, 0])
            self.assertEqual(Driver().ok("join", 1, group).look("upward", group), [0, 1, 0])

    def test_all_ports_together(self):
        driver = with_entries((3, 0, 0, [7, 9]), (4, 1, 0, [8]), (5, 2, 0, [9]), ports=3)
        self.assertEqual(driver.look("upward", 300), [0, 0, 3, 7, 8, 9])
        self.assertEqual(driver.look("upward", 301), [0, 0, 0])
        driver = with_entries((3, 0, 0, [7, 9]), (4, 1, 1, [7, 8, 10]), (5, 2, 1, [7, 8, 9]), ports=3)
        self.assertEqual(driver.look("upward", 300), [0, 1, 1, 8])

    def test_the_last_of_64_ports(self):
        driver = with_entries((3, 63, 0, [7]), (4, 0, 0, [8]), ports=64)
        self.assertEqual(driver.look("upward", 300), [0, 0, 2, 7, 8])
        self.assertEqual(driver.ok("join", 62, 300).look("upward", 300), [0, 1, 0])


class Entry(unittest.TestCase):
    def test_there_is_none(self):
        driver = with_entries((3, 1, 0, [7])).ok("host", 4, 1).ok("want", 4, 300, 0, [7]).ok("join", 1, 301)
        refusals(self, driver, "entry", [
            ((4, 300), -1), ((3, 301), -1), ((2, 300), -1), ((3, 299), -1), ((300, 3), -1), ((-1, 300), -1),
            ((3, -1), -1), ((65536, 300), -1), ((3, LAST_GROUP + 1), -1), ((LOW, HIGH), -1), ((HIGH, LOW), -1),
        ])

    def test_each_part(self):
        driver = Driver(ports=3, stay=10, every=100).ok("tick", 2).empty_bag().ok("host", 3, 2)
        driver.ok("want", 3, 300, 1, []).ok("want", 3, 300, 0, [7, 8]).ok("tick", 3).ok("deliver", 1)
        self.assertEqual(driver.look("entry", 3, 300), [0, 2, 2, 7, 0, 2, 7, 8])
        driver.ok("more", 3, 300, [9]).ok("deliver", 1)
        self.assertEqual(driver.look("entry", 3, 300), [0, 2, 3, 10, 0, 3, 7, 8, 9])
        driver.ok("want", 3, 300, 1, []).ok("deliver", 1).ok("tick", 9)
        self.assertEqual(driver.look("entry", 3, 300), [0, 2, 4, 1, 1, 0])
        driver.ok("tick", 1)
        self.assertEqual(driver.look("entry", 3, 300), [-1])

    def test_a_want_of_nothing(self):
        self.assertEqual(with_entries((3, 1, 0, [])).look("entry", 3, 300), [0, 1, 1, 10, 0, 0])

    def test_edges(self):
        driver = Driver(ports=64, stay=1000000).ok("host", 0, 63).ok("host", 65535, 0)
        driver.ok("want", 0, LAST_GROUP, 1, list(range(64))).ok("want", 65535, 0, 0, [2 ** 32 - 1])
        driver.ok("deliver", 0).ok("deliver", 0)
        self.assertEqual(driver.look("entry", 0, LAST_GROUP), [0, 63, 1, 1000000, 1, 64] + list(range(64)))
        self.assertEqual(driver.look("entry", 65535, 0), [0, 0, 1, 1000000, 0, 1, 2 ** 32 - 1])

    def test_at_the_end_of_time(self):
        driver = Driver(stay=10).ok("tick", END).empty_bag().ok("host", 3, 0).ok("want", 3, 300, 0, []).ok("deliver", 0)
        self.assertEqual(driver.look("entry", 3, 300), [0, 0, 1, 10, 0, 0])

    def test_it_stays_when_its_host_is_plugged_out(self):
        driver = with_entries((3, 1, 0, [7])).ok("unhost", 3)
        self.assertEqual(driver.look("entry", 3, 300), [0, 1, 1, 10, 0, 1, 7])


class HostOf(unittest.TestCase):
    def test_refusals(self):
        driver = Driver().ok("host", 3, 0)
        refusals(self, driver, "hostof", [((number,), -1) for number in (2, 4, -1, 65536, LOW, HIGH)])

    def test_new(self):
        self.assertEqual(Driver().ok("host", 3, 1).look("hostof", 3), [0, 1, 0])
        self.assertEqual(Driver().ok("host", 0, 0).look("hostof", 0), [0, 0, 0])
        self.assertEqual(Driver().ok("host", 65535, 0).look("hostof", 65535), [0, 0, 0])

    def test_groups_rising(self):
        driver = Driver().ok("host", 3, 1).ok("want", 3, 301, 0, [7, 8]).ok("want", 3, 20, 1, [])
        driver.ok("less", 3, 300, [4]).ok("more", 3, 301, [6]).ok("host", 4, 1).ok("want", 4, 5, 1, [9])
        self.assertEqual(driver.look("hostof", 3), [
            0, 1, 3,
            20, 1, 1, 0,
            300, 1, 0, 0,
            301, 2, 0, 3, 6, 7, 8,
        ])
        self.assertEqual(driver.look("hostof", 4), [0, 1, 1, 5, 1, 1, 1, 9])

    def test_at_no_port(self):
        driver = Driver().ok("host", 3, 1).ok("want", 3, 301, 0, [7]).ok("unhost", 3).ok("more", 3, 301, [8])
        driver.ok("want", 3, 300, 1, [4])
        self.assertEqual(driver.look("hostof", 3), [0, -1, 2, 300, 0, 1, 1, 4, 301, 1, 0, 2, 7, 8])
        driver.ok("host", 3, 1)
        self.assertEqual(driver.look("hostof", 3), [0, 1, 2, 300, 1, 1, 1, 4, 301, 2, 0, 2, 7, 8])

    def test_a_lost_report_counts_in_the_serial(self):
        driver = Driver(bag=1).ok("host", 3, 1)
        for times in range(4):
            driver.ok("want", 3, 300, 0, [times])
        self.assertEqual(driver.look("hostof", 3), [0, 1, 1, 300, 4, 0, 1, 3])

    def test_64_groups(self):
        driver = Driver().ok("host", 3, 1)
        wanted = [0, 1, 64]
        for group in range(64):
            driver.ok("want", 3, 63 - group, 0, [63 - group])
            wanted += [group, 1, 0, 1, group]
        self.assertEqual(driver.look("hostof", 3), wanted)


class Groups(unittest.TestCase):
    def test_refusals(self):
        driver = Driver(ports=3).ok("join", 0, 300)
        refusals(self, driver, "groups", [((-1,), -1), ((3,), -1), ((LOW,), -1), ((HIGH,), -1)])
        self.assertEqual(driver.look("groups", 0), [0, 1, 300])
        self.assertEqual(driver.look("groups", 2), [0, 0])

    def test_rising_and_each_once(self):
        driver = Driver(ports=2).ok("join", 1, 400).ok("join", 1, LAST_GROUP).ok("join", 0, 7)
        driver.ok("host", 3, 1).ok("host", 4, 1).ok("host", 5, 0)
        for host, group in ((3, 300), (4, 300), (3, 400), (4, 0), (5, 350)):
            driver.ok("want", host, group, 0, [host]).ok("deliver", 0)
        self.assertEqual(driver.look("groups", 1), [0, 4, 0, 300, 400, LAST_GROUP])
        self.assertEqual(driver.look("groups", 0), [0, 2, 7, 350])

    def test_nothing_is_left_out(self):
        driver = with_entries((3, 1, 0, []), (4, 0, 0, []), (5, 0, 0, [7]))
        self.assertEqual(driver.look("groups", 1), [0, 0])
        self.assertEqual(driver.look("groups", 0), [0, 1, 300])
        self.assertEqual(driver.ok("join", 1, 300).look("groups", 1), [0, 1, 300])

    def test_but_with_any_list_is_not_nothing(self):
        for sources in ([], [7], list(range(64))):
            self.assertEqual(with_entries((3, 1, 1, sources)).look("groups", 1), [0, 1, 300])

    def test_gone_at_the_very_second(self):
        driver = with_entries((3, 1, 0, [7]), stay=10).ok("join", 1, 301).ok("tick", 9)
        self.assertEqual(driver.look("groups", 1), [0, 2, 300, 301])
        self.assertEqual(driver.ok("tick", 1).look("groups", 1), [0, 0])

    def test_local_groups_of_which_nobody_told_are_not_there(self):
        self.assertEqual(Driver().ok("asker", 1, 1).look("groups", 1), [0, 0])


class Counts(unittest.TestCase):
    def test_new(self):
        self.assertEqual(Driver().look("counts"), [0] * 9)

    def test_each_in_its_place(self):
        driver = Driver(ports=1, me=9, stay=10, every=7, bag=4, entries=5).ok("tick", 2).ok("foreign", 0, 3)
        driver.ok("host", 3, 0)
        for group in (300, 301):
            driver.ok("want", 3, group, 0, [7]).ok("deliver", 1)
        for group in (300, 301, 302):
            driver.ok("join", 0, group)
        self.assertEqual(driver.look("counts"), [0, 2, 0, 0, 2, 3, 10, 7, 1])
        for group in range(303, 307):
            self.assertEqual(driver.call("join", 0, group), [1])
        for times in range(8):
            driver.ok("ask", 0, -1)
        self.assertEqual(driver.look("counts"), [0, 2, 5, 4, 2, 3, 10, 7, 4])
        driver.ok("tick", 1)
        self.assertEqual(driver.look("counts"), [0, 3, 5, 4, 2, 3, 9, 6, 4])

    def test_rests_are_never_below_0(self):
        driver = Driver(me=9, stay=3, every=7).ok("tick", 1).ok("foreign", 0, 3)
        self.assertEqual(driver.look("counts")[6:8], [3, 7])
        driver.ok("tick", 3)
        self.assertEqual(driver.look("counts")[6:8], [0, 4])
        driver.ok("tick", 1)
        self.assertEqual(driver.look("counts")[6:8], [0, 3])
        driver.ok("foreign", 1, 8).ok("tick", 2).ok("foreign", 1, 8).ok("tick", 2)
        self.assertEqual(driver.look("counts")[6:8], [1, 0])

    def test_full_by_a_report(self):
        driver = Driver(entries=1).ok("join", 0, 300).ok("host", 3, 0).ok("want", 3, 300, 0, [7]).ok("deliver", 0)
        self.assertEqual(driver.look("counts"), [0, 0, 0, 1, 0, 1, 0, 0, 0])

    def test_lose_and_a_refused_double_do_not_count(self):
        driver = Driver(bag=1).ok("ask", 0, 1)
        self.assertEqual(driver.call("double", 0), [-2])
        driver.ok("lose", 0)
        self.assertEqual(driver.look("counts"), [0] * 9)

    def test_at_the_end_of_time(self):
        driver = Driver(me=9, stay=1000000, every=999999).ok("tick", END).ok("foreign", 0, 3)
        self.assertEqual(driver.look("counts"), [0, END, 0, 0, 0, 0, 1000000, 999999, 2])
