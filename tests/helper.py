"""Drives a line of calls as the wire does, and shows its objects as plain values."""

from groupsnoop.line import Line
from groupsnoop.messages import Report
from groupsnoop.wire import answers
from groupsnoop.wire import run

LOW = -(2 ** 63)
HIGH = 2 ** 63 - 1

NAMES = (
    "begin", "host", "unhost", "want", "more", "less", "join", "leave", "foreign", "asker", "tick", "deliver", "lose",
    "double", "ask", "restart", "frame", "record", "upward", "entry", "hostof", "bag", "groups", "merge", "steps",
    "counts",
)


class Driver:
    """Calls by name: whole numbers as they are, rows as lists."""

    def __init__(self, ports=2, me=9, stay=10, every=5, last=1, bag=100, entries=100):
        self.line = Line()
        self.ok("begin", ports, me, stay, every, last, bag, entries)

    @property
    def net(self):
        return self.line.net

    @property
    def switch(self):
        return self.line.net.switch

    def call(self, name, *arguments):
        given = run(self.line, flat(name, *arguments))
        if given[0] != len(given) - 1:
            raise AssertionError(f"the count ahead of {given} is wrong")
        return given[1:]

    def ok(self, name, *arguments):
        answer = self.call(name, *arguments)
        if answer != [0]:
            raise AssertionError(f"{name}{arguments} answered {answer}")
        return self

    def look(self, name, *arguments):
        """The answer of a call that is to change nothing."""
        before = self.state()
        answer = self.call(name, *arguments)
        if self.state() != before:
            raise AssertionError(f"{name}{arguments} changed something")
        return answer

    def bag(self):
        return [shown_message(message) for message in self.net.bag]

    def empty_bag(self):
        while self.net.bag:
            self.ok("lose", 0)
        return self

    def entry(self, group, host):
        found = self.switch.entries.get((group, host))
        return None if found is None else (found.port, found.serial, found.want, found.until)

    def host(self, number):
        """The port, and for each group its serial and want."""
        found = self.net.hosts[number]
        if set(found.wants) != set(found.serials):
            raise AssertionError("wants and serials have other groups")
        return found.port, {group: (found.serials[group], found.wants[group]) for group in found.wants}

    def state(self):
        net = self.net
        switch = net.switch
        return {
            "told": (net.ports, net.me, net.stay, net.every, net.last, net.most_messages, switch.most_entries),
            "hosts": {number: self.host(number) for number in net.hosts},
            "entries": {key: self.entry(*key) for key in switch.entries},
            "plain": dict(switch.plain),
            "fixed": dict(switch.fixed),
            "heard": dict(switch.heard),
            "times": (net.now, switch.silent, switch.next_query),
            "counts": (net.lost, net.full),
            "bag": self.bag(),
        }


def with_entries(*told, **begun):
    """Each told is (host, port, mode, sources) of group 300; its report is delivered."""
    driver = Driver(**begun)
    for host, port, mode, sources in told:
        driver.ok("host", host, port).ok("want", host, 300, mode, sources).ok("deliver", 0)
    return driver


def flat(name, *arguments):
    numbers = [NAMES.index(name)]
    for argument in arguments:
        if isinstance(argument, list):
            numbers.append(len(argument))
            numbers.extend(argument)
        else:
            numbers.append(argument)
    return numbers


def answered(line):
    """The answers to a line of (name, arguments ...), each as a list of its own."""
    given = answers(sum((flat(*call) for call in line), []))
    found = []
    while given:
        found.append(given[1:given[0] + 1])
        given = given[given[0] + 1:]
    return found


def shown_message(message):
    if isinstance(message, Report):
        return ("report", message.host, message.port, message.group, message.serial, message.sent, message.step)
    return ("query", message.port, message.group)


def only(*sources):
    return (0, sources)


def but(*sources):
    return (1, sources)


def setting(want):
    return (0, want)


def allowing(*sources):
    return (1, sources)


def blocking(*sources):
    return (2, sources)


def refusals(case, driver, name, wanted):
    """Each (arguments, number) is refused with the number alone and changes nothing."""
    before = driver.state()
    for arguments, number in wanted:
        with case.subTest(call=name, arguments=arguments):
            case.assertEqual(driver.call(name, *arguments), [number])
            case.assertEqual(driver.state(), before)
