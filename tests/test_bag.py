import unittest

from tests.helper import HIGH, LOW, Driver, only, refusals, setting


def with_three():
    driver = Driver().ok("host", 3, 0)
    return driver.ok("want", 3, 300, 0, [7]).ok("want", 3, 301, 0, [8]).ok("want", 3, 302, 0, [9])


class Places(unittest.TestCase):
    def test_refusals(self):
        for name in ("deliver", "lose"):
            refusals(self, Driver(), name, [((0,), -1), ((-1,), -1), ((1,), -1)])
            refusals(self, with_three(), name, [((-1,), -1), ((3,), -1), ((4,), -1), ((LOW,), -1), ((HIGH,), -1)])

    def test_deliver_takes_out_the_one_at_the_place(self):
        for place in range(3):
            driver = with_three()
            wanted = driver.bag()
            wanted.pop(place)
            driver.ok("deliver", place)
            self.assertEqual(driver.bag(), wanted)
            self.assertEqual(list(driver.switch.entries), [(300 + place, 3)])

    def test_lose_takes_out_the_one_at_the_place(self):
        for place in range(3):
            driver = with_three()
            wanted = driver.state()
            wanted["bag"].pop(place)
            driver.ok("lose", place)
            self.assertEqual(driver.state(), wanted)

    def test_lose_does_not_count(self):
        driver = Driver(bag=1).ok("tick", 1)
        self.assertEqual(driver.net.lost, 1)
        driver.ok("lose", 0)
        self.assertEqual(driver.net.lost, 1)

    def test_lose_does_not_hand_over_a_query(self):
        driver = with_three().empty_bag().ok("tick", 1).ok("lose", 0)
        self.assertEqual(driver.bag(), [("query", 1, -1)])


class Full(unittest.TestCase):
    def test_a_report_is_lost_and_counted(self):
        driver = Driver(bag=2).ok("host", 3, 0).ok("want", 3, 300, 0, [7]).ok("want", 3, 301, 0, [7])
        self.assertEqual(driver.net.lost, 0)
        before = driver.bag()
        driver.ok("want", 3, 300, 0, [8])
        self.assertEqual(driver.bag(), before)
        self.assertEqual(driver.net.lost, 1)
        self.assertEqual(driver.host(3), (0, {300: (2, only(8)), 301: (1, only(7))}))
        driver.ok("want", 3, 302, 0, [8])
        self.assertEqual(driver.net.lost, 2)

    def test_place_again(self):
        driver = Driver(bag=1).ok("host", 3, 0).ok("want", 3, 300, 0, [7]).ok("lose", 0).ok("want", 3, 300, 0, [8])
        self.assertEqual(driver.bag(), [("report", 3, 0, 300, 2, 0, setting(only(8)))])
        self.assertEqual(driver.net.lost, 0)

    def test_the_message_delivered_leaves_its_place_to_the_answer(self):
        driver = Driver(bag=1).ok("host", 3, 0).ok("more", 3, 300, [7]).ok("deliver", 0)
        self.assertEqual(driver.bag(), [("query", 0, 300)])
        driver.ok("deliver", 0)
        self.assertEqual(driver.bag(), [("report", 3, 0, 300, 2, 0, setting(only(7)))])
        self.assertEqual(driver.net.lost, 0)

    def test_answers_beyond_the_place_are_lost(self):
        driver = Driver(bag=2, ports=1).ok("host", 3, 0).ok("want", 3, 300, 0, [7]).ok("want", 3, 301, 0, [7])
        driver.ok("want", 3, 302, 0, [7]).empty_bag().ok("tick", 1).ok("want", 3, 300, 0, [8]).ok("deliver", 0)
        self.assertEqual([message[3:5] for message in driver.bag()], [(300, 2), (300, 3)])
        self.assertEqual(driver.net.lost, 3)
        self.assertEqual(driver.host(3), (0, {300: (3, only(8)), 301: (2, only(7)), 302: (2, only(7))}))

    def test_1024_messages(self):
        driver = Driver(ports=64, bag=1024, every=1)
        for ticks in range(16):
            driver.ok("tick", 1)
        self.assertEqual((len(driver.bag()), driver.net.lost), (1024, 0))
        driver.ok("tick", 1)
        self.assertEqual((len(driver.bag()), driver.net.lost), (1024, 64))
        refusals(self, driver, "lose", [((1024,), -1)])
        driver.ok("lose", 1023)
