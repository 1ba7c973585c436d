"""Calls and answers as lists of whole numbers."""

from groupsnoop.bag_calls import call_deliver
from groupsnoop.bag_calls import call_double
from groupsnoop.bag_calls import call_lose
from groupsnoop.frame_calls import call_frame
from groupsnoop.host_calls import call_host
from groupsnoop.host_calls import call_less
from groupsnoop.host_calls import call_more
from groupsnoop.host_calls import call_unhost
from groupsnoop.host_calls import call_want
from groupsnoop.line import Line
from groupsnoop.line import call_begin
from groupsnoop.look_calls import call_bag
from groupsnoop.look_calls import call_counts
from groupsnoop.look_calls import call_entry
from groupsnoop.look_calls import call_groups
from groupsnoop.look_calls import call_hostof
from groupsnoop.look_calls import call_record
from groupsnoop.look_calls import call_upward
from groupsnoop.switch_calls import call_ask
from groupsnoop.switch_calls import call_asker
from groupsnoop.switch_calls import call_foreign
from groupsnoop.switch_calls import call_join
from groupsnoop.switch_calls import call_leave
from groupsnoop.switch_calls import call_restart
from groupsnoop.switch_calls import call_tick
from groupsnoop.want_calls import call_merge
from groupsnoop.want_calls import call_steps

# For each call, by its number: how many whole numbers it has, and how many rows behind them.
SHAPES = (
    (7, 0), (2, 0), (1, 0), (3, 1), (2, 1), (2, 1), (2, 0), (2, 0), (2, 0), (2, 0), (1, 0), (1, 0), (1, 0),
    (1, 0), (2, 0), (0, 0), (3, 0), (2, 0), (1, 0), (2, 0), (1, 0), (0, 0), (1, 0), (2, 2), (2, 2), (0, 0),
)


# What is handed in belongs to the caller, so it is read by slices and never used up.
class Reader:
    def __init__(self, calls):
        self.calls = calls
        self.place = 0

    def at_end(self):
        return self.place >= len(self.calls)

    def take(self, how_many):
        start = self.place
        self.place = start + how_many
        return self.calls[start:self.place]

    def take_number(self):
        return self.take(1)[0]

    def take_row(self):
        return self.take(self.take_number())


def answers(calls):
    return run(Line(), calls)


def run(line, calls):
    reader = Reader(calls)
    given = []
    while not reader.at_end():
        answer = next_answer(line, reader)
        given.append(len(answer))
        given.extend(answer)
    return given


def next_answer(line, reader):
    call = reader.take_number()
    shape = SHAPES[call]
    numbers = reader.take(shape[0])
    rows = []
    while len(rows) < shape[1]:
        rows.append(reader.take_row())
    if call == 0:
        return call_begin(
            line, numbers[0], numbers[1], numbers[2], numbers[3], numbers[4], numbers[5], numbers[6]
        )
    if line.net is None:
        return [-20]
    return answer_of_net(line.net, call, numbers, rows)


def answer_of_net(net, call, numbers, rows):
    if call <= 5:
        return answer_of_host(net, call, numbers, rows)
    if call <= 10:
        return answer_of_switch(net, call, numbers)
    if call <= 13:
        return answer_of_bag(net, call, numbers)
    if call <= 16:
        return answer_of_asking(net, call, numbers)
    if call == 23:
        return call_merge(numbers[0], numbers[1], rows[0], rows[1])
    if call == 24:
        return call_steps(numbers[0], numbers[1], rows[0], rows[1])
    return answer_of_look(net, call, numbers)


def answer_of_host(net, call, numbers, rows):
    if call == 1:
        return call_host(net, numbers[0], numbers[1])
    if call == 2:
        return call_unhost(net, numbers[0])
    if call == 3:
        return call_want(net, numbers[0], numbers[1], numbers[2], rows[0])
    if call == 4:
        return call_more(net, numbers[0], numbers[1], rows[0])
    return call_less(net, numbers[0], numbers[1], rows[0])


def answer_of_switch(net, call, numbers):
    if call == 6:
        return call_join(net, numbers[0], numbers[1])
    if call == 7:
        return call_leave(net, numbers[0], numbers[1])
    if call == 8:
        return call_foreign(net, numbers[0], numbers[1])
    if call == 9:
        return call_asker(net, numbers[0], numbers[1])
    return call_tick(net, numbers[0])


def answer_of_bag(net, call, numbers):
    if call == 11:
        return call_deliver(net, numbers[0])
    if call == 12:
        return call_lose(net, numbers[0])
    return call_double(net, numbers[0])


def answer_of_asking(net, call, numbers):
    if call == 14:
        return call_ask(net, numbers[0], numbers[1])
    if call == 15:
        return call_restart(net)
    return call_frame(net, numbers[0], numbers[1], numbers[2])


def answer_of_look(net, call, numbers):
    if call == 17:
        return call_record(net, numbers[0], numbers[1])
    if call == 18:
        return call_upward(net, numbers[0])
    if call == 19:
        return call_entry(net, numbers[0], numbers[1])
    if call == 20:
        return call_hostof(net, numbers[0])
    if call == 21:
        return call_bag(net)
    if call == 22:
        return call_groups(net, numbers[0])
    return call_counts(net)
