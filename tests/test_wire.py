import unittest

from groupsnoop.line import Line
from groupsnoop.wire import answers, run
from tests.helper import NAMES, flat

BEGIN = [0, 2, 9, 10, 5, 1, 4, 4]


class Untouchable(list):
    """A list that can only be read."""

    def refuse(self, *arguments, **named):
        raise AssertionError("what is handed in was changed")

    append = extend = insert = pop = remove = clear = sort = reverse = refuse
    __setitem__ = __delitem__ = __iadd__ = __imul__ = refuse


# Each call with its answer, in a line that has all 26 of them.
CALLS = (
    (BEGIN, [0]), (flat("host", 3, 0), [0]), (flat("want", 3, 300, 0, [7, 8]), [0]), (flat("deliver", 0), [0]),
    (flat("more", 3, 300, [9]), [0]), (flat("less", 3, 300, []), [0]), (flat("lose", 1), [0]),
    (flat("join", 1, 300), [0]), (flat("leave", 1, 300), [0]), (flat("foreign", 1, 3), [0]),
    (flat("asker", 1, 1), [0]), (flat("tick", 1), [0]), (flat("want", 3, 300, 2, [5, 4]), [-3]),
    (flat("double", 0), [0]), (flat("ask", 1, -1), [0]),
    (flat("bag"), [0, 4, 0, 3, 0, 300, 2, 0, 1, 1, 9, 1, 1, 300, 0, 3, 0, 300, 2, 0, 1, 1, 9, 1, 1, -1]),
    (flat("frame", 1, 300, 7), [0, 1, 0, 1, 3]), (flat("frame", 0, 300, 7), [0, 1, 1, 0]),
    (flat("record", 0, 300), [0, 0, 2, 7, 8]), (flat("upward", 300), [0, 0, 2, 7, 8]),
    (flat("entry", 3, 300), [0, 0, 1, 9, 0, 2, 7, 8]), (flat("unhost", 3), [0]),
    (flat("hostof", 3), [0, -1, 1, 300, 3, 0, 3, 7, 8, 9]), (flat("groups", 0), [0, 1, 300]),
    (flat("merge", 0, 1, [1, 2], [2, 3]), [0, 1, 1, 3]), (flat("steps", 0, 1, [], [2, 3]), [0, 1, 0, 1, 2, 2, 3]),
    (flat("counts"), [0, 1, 0, 0, 1, 0, 9, 0, 4]), (flat("restart"), [0]),
    (flat("counts"), [0, 1, 0, 0, 0, 0, 0, 0, 4]), (flat("deliver", 9), [-1]),
)
LINE = sum((call for call, answer in CALLS), [])
LINE_ANSWERS = sum(([len(answer)] + answer for call, answer in CALLS), [])


class Answers(unittest.TestCase):
    def test_a_line_of_all_calls(self):
        self.assertEqual({call[0] for call, answer in CALLS}, set(range(len(NAMES))))
        self.assertEqual(answers(list(LINE)), LINE_ANSWERS)

    def test_it_gives_back_a_list_of_ints(self):
        given = answers(list(LINE))
        self.assertIs(type(given), list)
        self.assertEqual({type(number) for number in given}, {int})

    def test_each_call_reads_its_own_numbers_alone(self):
        self.assertEqual(answers(BEGIN + [1, 0, 1] + [1, 1, 0] + [2, 0] + [2, 0] + [2, 1]),
                         [1, 0, 1, 0, 1, 0, 1, 0, 1, -2, 1, 0])

    def test_rows_of_0_and_128(self):
        calls = BEGIN + [1, 3, 0] + [3, 3, 300, 0, 0] + [3, 3, 300, 0, 128] + list(range(128))
        calls += [4, 3, 300, 0] + [5, 3, 300, 128] + list(range(128)) + [6, 0, 1]
        self.assertEqual(answers(calls), [1, 0, 1, 0, 1, 0, 1, -3, 1, 0, 1, -3, 1, 0])

    def test_the_numbers_go_where_the_document_says(self):
        line = Line()
        run(line, BEGIN + [1, 0, 1, 3, 0, 300, 1, 2, 7, 8, 6, 1, 301, 8, 1, 3, 9, 0, 1])
        host = line.net.hosts[0]
        self.assertEqual((host.port, host.wants), (1, {300: (1, (7, 8))}))
        self.assertEqual(line.net.switch.plain, {(1, 301): 10})
        self.assertEqual(line.net.switch.heard, {1: 10})
        self.assertEqual(line.net.switch.fixed, {0: True})

    def test_join_answers_1_without_room(self):
        self.assertEqual(answers([0, 1, 0, 1, 1, 1, 1, 1, 6, 0, 5, 6, 0, 6, 6, 0, 5]), [1, 0, 1, 0, 1, 1, 1, 0])

    def test_what_is_handed_in_is_only_read(self):
        handed = Untouchable(LINE)
        self.assertEqual(answers(handed), LINE_ANSWERS)
        self.assertEqual(list(handed), LINE)

    def test_what_is_given_back_is_new(self):
        first = answers(BEGIN)
        first.append(5)
        self.assertEqual(answers(BEGIN), [1, 0])

    def test_nothing_is_kept_from_one_time_to_the_next(self):
        self.assertEqual(answers(BEGIN + [1, 3, 0]), [1, 0, 1, 0])
        self.assertEqual(answers([1, 3, 0]), [1, -20])
        self.assertEqual(answers(BEGIN + [2, 3]), [1, 0, 1, -1])
        self.assertEqual(answers(list(LINE)), answers(list(LINE)))

    def test_two_lines_do_not_meet(self):
        one = Line()
        other = Line()
        run(one, BEGIN + [1, 3, 0] + [9, 1, 1] + [3, 3, 300, 0, 1, 7] + [11, 0])
        run(other, BEGIN)
        self.assertEqual(other.net.hosts, {})
        self.assertEqual(other.net.bag, [])
        self.assertEqual((other.net.switch.fixed, other.net.switch.entries), ({}, {}))

    def test_a_long_line(self):
        calls = [0, 64, 9, 1000000, 1, 1, 1024, 4096]
        for number in range(132):
            calls += [1, number, number % 64] + [3, number, 300, 1, 1, number] + [10, 1]
        self.assertEqual(answers(calls), [1, 0] * 397)

    def test_rows_of_merge_and_steps_stand_one_behind_another(self):
        for call in (23, 24):
            for one in ([], [5], list(range(64)), list(range(65)), [3] * 128):
                for other in ([], [6], list(range(64)), list(range(128))):
                    calls = BEGIN + [call, 0, 0, len(one)] + one + [len(other)] + other + [25]
                    given = answers(calls)
                    self.assertEqual(given[-10:], [9, 0, 0, 0, 0, 0, 0, 0, 0, 0])
                    if len(one) > 64 or len(other) > 64:
                        self.assertEqual(given[:-10], [1, 0, 1, -1])

    def test_calls_without_numbers(self):
        self.assertEqual(answers(BEGIN + [15, 21, 25, 15]), [1, 0, 1, 0, 2, 0, 0, 9] + [0] * 9 + [1, 0])

    def test_a_handed_list_stays_whatever_is_done_with_its_rows(self):
        line = BEGIN + [1, 3, 0, 3, 3, 300, 0, 2, 7, 8, 4, 3, 300, 1, 9, 23, 0, 1, 2, 1, 2, 2, 2, 3, 24, 0, 0, 1, 1, 0]
        before = list(line)
        first = answers(line)
        self.assertEqual(line, before)
        self.assertEqual(answers(line), first)
        self.assertEqual(line, before)
