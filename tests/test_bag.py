import unittest

from tests.helper import HIGH, LOW, Driver, only, refusals, setting


def with_three():
    driver = Driver().ok("host", 3, 0)
    return driver.ok("want", 3, 300, 0, [7]).ok("want", 3, 301, 0, [8]).ok("want", 3, 302, 0, [9])


class Places(unittest.TestCase):
    def test_refusals(self):
        for name in ("deliver", "lose"):
            refusals(self, Driver(), name, [((0,), -1), ((-1,), -1), ((1,), -1)])
            refusals(self, with_three(), name, [((-1,), -1), ((3,), -1), ((4,), -1), ((LOW,), -1), ((HIGH,), -1)])

    def test_deliver_takes_out_the_one_at_the_place(self):
        for place in range(3):
            driver = with_three()
            wanted = driver.bag()
            wanted.pop(place)
            driver.ok("deliver", place)
            self.assertEqual(driver.bag(), wanted)
            self.assertEqual(list(driver.switch.entries), [(300 + place, 3)])

    def test_lose_takes_out_the_one_at_the_place(self):
        for place in range(3):
            driver = with_three()
            wanted = driver.state()
            wanted["bag"].pop(place)
            driver.ok("lose", place)
            self.assertEqual(driver.state(), wanted)

    def test_lose_does_not_count(self):
        driver = Driver(bag=1).ok("tick", 1)
        self.assertEqual(driver.net.lost, 1)
        driver.ok("lose", 0)
        self.assertEqual(driver.net.lost, 1)

    def test_lose_does_not_hand_over_a_query(self):
        driver = with_three().empty_bag().ok("tick", 1).ok("lose", 0)
        self.assertEqual(driver.bag(), [("query", 1, -1)])


class Full(unittest.TestCase):
    def test_a_report_is_lost_and_counted(self):
        driver = Driver(bag=2).ok("host", 3, 0).ok("want", 3, 300, 0, [7]).ok("want", 3, 301, 0, [7])
        self.assertEqual(driver.net.lost, 0)
        before = driver.bag()
        driver.ok("want", 3, 300, 0, [8])
        self.assertEqual(driver.bag(), before)
        self.assertEqual(driver.net.lost, 1)
        self.assertEqual(driver.host(3), (0, {300: (2, only(8)), 301: (1, only(7))}))
        driver.ok("want", 3, 302, 0, [8])
        self.assertEqual(driver.net.lost, 2)

    def test_place_again(self):
        driver = Driver(bag=1).ok("host", 3, 0).ok("want", 3, 300, 0, [7]).ok("lose", 0).ok("want", 3, 300, 0, [8])
        self.assertEqual(driver.bag(), [("report", 3, 0, 300, 2, 0, setting(only(8)))])
        self.assertEqual(driver.net.lost, 0)

    def test_the_message_delivered_leaves_its_place_to_the_answer(self):
        driver = Driver(bag=1).ok("host", 3, 0).ok("more", 3, 300, [7]).ok("deliver", 0)
        self.assertEqual(driver.bag(), [("query", 0, 300)])
        driver.ok("deliver", 0)
        self.assertEqual(driver.bag(), [("report", 3, 0, 300, 2, 0, setting(only(7)))])
        self.assertEqual(driver.net.lost, 0)

    def test_answers_beyond_the_place_are_lost(self):
        driver = Driver(bag=2, ports=1).ok("host", 3, 0).ok("want", 3, 300, 0, [7]).ok("want", 3, 301, 0, [7])
        driver.ok("want", 3, 302, 0, [7]).empty_bag().ok("tick", 1).ok("want", 3, 300, 0, [8]).ok("deliver", 0)
        self.assertEqual([message[3:5] for message in driver.bag()], [(300, 2), (300, 3)])
        self.assertEqual(driver.net.lost, 3)
        self.assertEqual(driver.host(3), (0, {300: (3, only(8)), 301: (2, only(7)), 302: (2, only(7))}))

    def test_1024_messages(self):
        driver = Driver(ports=64, bag=1024, every=1)
        for ticks in range(16):
            driver.ok("tick", 1)
        self.assertEqual((len(driver.bag()), driver.net.lost), (1024, 0))
        driver.ok("tick", 1)
        self.assertEqual((len(driver.bag()), driver.net.lost), (1024, 64))
        refusals(self, driver, "lose", [((1024,), -1)])
        driver.ok("lose", 1023)


class Double(unittest.TestCase):
    def test_the_same_once_more_at_the_end(self):
        for place in range(3):
            driver = with_three()
            wanted = driver.state()
            wanted["bag"].append(wanted["bag"][place])
            driver.ok("double", place)
            self.assertEqual(driver.state(), wanted)

    def test_a_query_too(self):
        driver = Driver().ok("ask", 1, -1).ok("ask", 0, 300).ok("double", 0).ok("double", 1)
        self.assertEqual(driver.bag(), [("query", 1, -1), ("query", 0, 300)] * 2)

    def test_a_doubled_one_is_doubled_again(self):
        driver = with_three().ok("double", 2).ok("double", 3)
        self.assertEqual([message[3] for message in driver.bag()], [300, 301, 302, 302, 302])

    def test_the_time_when_it_was_sent_stays(self):
        driver = Driver(every=100).ok("tick", 2).empty_bag().ok("host", 3, 0).ok("want", 3, 300, 0, [7])
        driver.ok("tick", 5).ok("double", 0)
        self.assertEqual(driver.bag(), [("report", 3, 0, 300, 1, 2, setting(only(7)))] * 2)

    def test_one_is_taken_out_and_the_other_stays(self):
        driver = with_three().ok("double", 0).ok("lose", 0)
        self.assertEqual([message[3] for message in driver.bag()], [301, 302, 300])
        driver.ok("double", 2).ok("deliver", 3)
        self.assertEqual([message[3] for message in driver.bag()], [301, 302, 300])

    def test_refusals(self):
        refusals(self, Driver(), "double", [((0,), -1), ((-1,), -1), ((1,), -1)])
        refusals(self, with_three(), "double", [((-1,), -1), ((3,), -1), ((4,), -1), ((LOW,), -1), ((HIGH,), -1)])

    def test_a_full_bag_refuses_and_loses_nothing(self):
        driver = Driver(bag=3).ok("ask", 0, 1).ok("ask", 0, 2).ok("double", 1)
        refusals(self, driver, "double", [((0,), -2), ((2,), -2), ((3,), -1), ((-1,), -1), ((HIGH,), -1)])
        self.assertEqual(driver.net.lost, 0)
        driver.ok("lose", 0).ok("double", 1)

    def test_a_bag_of_one(self):
        refusals(self, Driver(bag=1).ok("ask", 0, 1), "double", [((0,), -2), ((1,), -1)])

    def test_up_to_1024(self):
        driver = Driver(bag=1024).ok("ask", 0, 1)
        for times in range(1023):
            driver.ok("double", times)
        refusals(self, driver, "double", [((0,), -2), ((1023,), -2), ((1024,), -1)])
        self.assertEqual(driver.look("counts"), [0, 0, 0, 0, 0, 0, 0, 0, 1024])


class Bag(unittest.TestCase):
    def test_empty(self):
        self.assertEqual(Driver().look("bag"), [0, 0])

    def test_each_message_in_order(self):
        driver = Driver(ports=3, every=4).ok("tick", 4).empty_bag().ok("host", 3, 2)
        driver.ok("want", 3, 300, 0, [7, 8]).ok("want", 3, 301, 1, []).ok("ask", 1, -1).ok("more", 3, 300, [])
        driver.ok("less", 3, 301, [5, 6]).ok("more", 3, 302, [9]).ok("ask", 0, 300).ok("want", 3, 302, 0, [])
        self.assertEqual(driver.look("bag"), [
            0, 8,
            0, 3, 2, 300, 1, 4, 0, 0, 2, 7, 8,
            0, 3, 2, 301, 1, 4, 0, 1, 0,
            1, 1, -1,
            0, 3, 2, 300, 2, 4, 1, 0,
            0, 3, 2, 301, 2, 4, 2, 2, 5, 6,
            0, 3, 2, 302, 1, 4, 1, 1, 9,
            1, 0, 300,
            0, 3, 2, 302, 2, 4, 0, 0, 0,
        ])

    def test_a_report_keeps_the_port_from_which_it_was_sent(self):
        driver = Driver().ok("host", 3, 0).ok("want", 3, 300, 0, [7]).ok("host", 3, 1).ok("unhost", 3)
        self.assertEqual(driver.look("bag"), [0, 2, 0, 3, 0, 300, 1, 0, 0, 0, 1, 7, 0, 3, 1, 300, 2, 0, 0, 0, 1, 7])

    def test_a_long_list(self):
        row = list(range(2 ** 32 - 64, 2 ** 32))
        driver = Driver().ok("host", 65535, 1).ok("want", 65535, 2 ** 28 - 1, 1, row)
        self.assertEqual(driver.look("bag"), [0, 1, 0, 65535, 1, 2 ** 28 - 1, 1, 0, 0, 1, 64] + row)
