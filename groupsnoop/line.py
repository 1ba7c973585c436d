"""A line of calls and the call that begins all: begin."""

from groupsnoop.net import Net
from groupsnoop.ranges import MOST_ENTRIES
from groupsnoop.ranges import MOST_MESSAGES
from groupsnoop.ranges import MOST_PORTS
from groupsnoop.ranges import MOST_SECONDS
from groupsnoop.ranges import is_source


# The net is None until begin has answered 0.
class Line:
    def __init__(self):
        self.net = None


def call_begin(line, ports, me, stay, every, last, bag, entries):
    if not 1 <= ports <= MOST_PORTS or not is_source(me):
        return [-1]
    for seconds in (stay, every, last):
        if not 1 <= seconds <= MOST_SECONDS:
            return [-1]
    if not 1 <= bag <= MOST_MESSAGES or not 1 <= entries <= MOST_ENTRIES:
        return [-1]
    line.net = Net(ports, me, stay, every, last, bag, entries)
    return [0]
