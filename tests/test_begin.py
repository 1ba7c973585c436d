import unittest

from groupsnoop.line import Line
from groupsnoop.wire import answers
from groupsnoop.wire import run
from tests.helper import HIGH, LOW, Driver, flat, only, refusals

GOOD = (2, 9, 10, 5, 1, 4, 4)
RANGES = (
    (1, 64),
    (0, 2 ** 32 - 1),
    (1, 1000000),
    (1, 1000000),
    (1, 1000000),
    (1, 1024),
    (1, 4096),
)


def with_number(place, number):
    return GOOD[:place] + (number,) + GOOD[place + 1:]


def busy_driver():
    driver = Driver(ports=3, me=9, stay=10, every=5, last=2, bag=6, entries=2)
    driver.ok("host", 3, 0).ok("want", 3, 300, 0, [7, 8]).ok("deliver", 0)
    driver.ok("join", 1, 301).ok("asker", 2, 1).ok("tick", 1).ok("foreign", 1, 4)
    driver.call("join", 1, 302)
    for group in range(8):
        driver.ok("more", 3, group, [5])
    return driver


class Begin(unittest.TestCase):
    def test_edges_of_each_range(self):
        for place, (least, most) in enumerate(RANGES):
            for number in (least, most):
                with self.subTest(place=place, number=number):
                    self.assertEqual(answers(flat("begin", *with_number(place, number))), [1, 0])
            for number in (least - 1, most + 1, LOW, HIGH):
                with self.subTest(place=place, number=number):
                    self.assertEqual(answers(flat("begin", *with_number(place, number))), [1, -1])

    def test_all_out_of_range_at_once(self):
        self.assertEqual(answers(flat("begin", 0, -1, 0, 0, 0, 0, 0)), [1, -1])

    def test_each_number_is_kept_where_it_belongs(self):
        driver = Driver(11, 12, 13, 14, 15, 16, 17)
        self.assertEqual(driver.state()["told"], (11, 12, 13, 14, 15, 16, 17))

    def test_all_is_new(self):
        state = Driver().state()
        self.assertEqual(state.pop("told"), (2, 9, 10, 5, 1, 100, 100))
        self.assertEqual(state, {
            "hosts": {}, "entries": {}, "plain": {}, "fixed": {}, "heard": {},
            "times": (0, 0, 0), "counts": (0, 0), "bag": [],
        })

    def test_begin_behind_begin_is_as_new(self):
        driver = busy_driver()
        for part, content in driver.state().items():
            self.assertTrue(any(content), part)
        driver.ok("begin", 2, 9, 10, 5, 1, 100, 100)
        self.assertEqual(driver.state(), Driver().state())

    def test_refused_begin_leaves_what_there_is(self):
        refusals(self, busy_driver(), "begin", [
            ((0, 9, 10, 5, 1, 4, 4), -1),
            ((65, 9, 10, 5, 1, 4, 4), -1),
            ((2, 9, 10, 5, 1, 4, 4097), -1),
        ])


class NotBegun(unittest.TestCase):
    CALLS = (
        flat("host", 3, 0), flat("unhost", 3), flat("want", 3, 300, 0, [7, 8]), flat("more", 3, 300, [9]),
        flat("less", 3, 300, []), flat("join", 0, 300), flat("leave", 0, 300), flat("foreign", 0, 1),
        flat("asker", 0, 1), flat("tick", 1), flat("deliver", 0), flat("lose", 0),
        [13, 0], [14, 0, 300], [15], [16, 0, 300, 7], [17, 0, 300], [18, 300], [19, 3, 300], [20, 3], [21], [22, 0],
        [23, 0, 1, 2, 5, 6, 1, 7], [24, 0, 0, 0, 1, 5], [25],
    )

    def test_each_call_answers_minus_20(self):
        for call in self.CALLS:
            with self.subTest(call=call):
                self.assertEqual(answers(call), [1, -20])

    def test_also_where_the_call_would_be_refused(self):
        self.assertEqual(answers(flat("host", -1, 64) + flat("tick", 0) + flat("want", -1, -1, 2, [2, 1])), [1, -20] * 3)

    def test_all_in_one_line(self):
        self.assertEqual(answers(sum(self.CALLS * 2, [])), [1, -20] * len(self.CALLS) * 2)

    def test_behind_a_refused_begin(self):
        line = Line()
        self.assertEqual(run(line, flat("begin", 0, 9, 10, 5, 1, 4, 4)), [1, -1])
        for call in self.CALLS:
            with self.subTest(call=call):
                self.assertEqual(run(line, call), [1, -20])
        self.assertEqual(run(line, flat("begin", *GOOD) + flat("host", 3, 0)), [1, 0, 1, 0])

    def test_nothing_of_before_is_kept(self):
        line = Line()
        run(line, flat("host", 3, 0) + flat("asker", 0, 1) + flat("begin", *GOOD))
        self.assertEqual(line.net.hosts, {})
        self.assertEqual(line.net.switch.fixed, {})

    def test_a_refused_begin_behind_a_good_one_ends_nothing(self):
        driver = Driver().ok("host", 3, 0)
        self.assertEqual(driver.call("begin", 0, 0, 0, 0, 0, 0, 0), [-1])
        driver.ok("want", 3, 300, 0, [7])
        self.assertEqual(driver.host(3), (0, {300: (1, only(7))}))
