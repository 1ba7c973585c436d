"""Lines drawn by chance (from fixed seeds), beside a second writing of the document's words.

The model shares nothing with the package. A want is (rest, others) here: whether a source that is not among
the others is wanted; those among the others are the other way round. All else is kept in plain lists.
"""

import random
import unittest

from tests.helper import HIGH, LOW, answered

GROUP_END = 2 ** 28
SOURCE_END = 2 ** 32
NOW_END = 2 ** 62


def has(want, source):
    rest, others = want
    return (not rest) if source in others else rest


def from_test(rest, sources, test):
    return (rest, frozenset(source for source in sources if test(source) != rest))


def either(wants):
    rest = any(want[0] for want in wants)
    sources = {source for want in wants for source in want[1]}
    return from_test(rest, sources, lambda source: any(has(want, source) for want in wants))


def stepped(step, want):
    kind, what = step
    if kind == 0:
        return what
    return from_test(want[0], want[1] | set(what), lambda source: kind == 1 if source in what else has(want, source))


def want_numbers(want):
    return [int(want[0]), len(want[1]), *sorted(want[1])]


def step_numbers(step):
    return [0, *want_numbers(step[1])] if step[0] == 0 else [step[0], len(step[1]), *step[1]]


def row_ok(row):
    return len(row) <= 64 and row == sorted(set(row)) and all(0 <= source < SOURCE_END for source in row)


class Refused(Exception):
    pass


def unless(number, holds):
    if not holds:
        raise Refused(number)


class Model:
    def __init__(self):
        self.begun = False

    def answer(self, name, *arguments):
        try:
            if name != "begin":
                unless(-20, self.begun)
            given = getattr(self, "do_" + name)(*arguments)
        except Refused as refused:
            return [refused.args[0]]
        return [0] if given is None else given

    def port_ok(self, port):
        unless(-1, 0 <= port < self.ports)

    def group_ok(self, group, number=-2):
        unless(number, 0 <= group < GROUP_END)

    def send(self, *message):
        if len(self.bag) < self.bag_size:
            self.bag.append(message)
        else:
            self.lost += 1

    def room(self):
        return len(self.entries) + len(self.plain) < self.entries_size

    def tell(self, host, group, step):
        kept = self.hosts[host]["kept"]
        serial, want = kept.get(group, (0, (False, frozenset())))
        port = self.hosts[host]["port"]
        if port >= 0:
            serial += 1
            self.send("report", host, port, group, serial, self.now, step)
        kept[group] = (serial, stepped(step, want))

    def retell(self, host, group):
        if self.hosts[host]["port"] >= 0 and group in self.hosts[host]["kept"]:
            self.tell(host, group, (0, self.hosts[host]["kept"][group][1]))

    def record(self, port, group):
        wants = [entry["want"] for entry in self.entries if (entry["port"], entry["group"]) == (port, group)]
        wants += [(True, frozenset()) for place in self.plain if place == (port, group)]
        return either(wants)

    def do_begin(self, ports, me, stay, every, last, bag, entries):
        unless(-1, 1 <= ports <= 64 and 0 <= me < SOURCE_END and 1 <= bag <= 1024 and 1 <= entries <= 4096)
        unless(-1, all(1 <= number <= 1000000 for number in (stay, every, last)))
        self.begun = True
        self.ports, self.me, self.stay, self.every, self.last = ports, me, stay, every, last
        self.bag_size, self.entries_size = bag, entries
        self.hosts, self.bag, self.fixed = {}, [], set()
        self.now = self.lost = self.full = 0
        self.do_restart()

    def do_restart(self):
        self.entries, self.plain, self.heard = [], {}, {}
        self.silent = self.next = 0

    def do_host(self, host, port):
        self.port_ok(port)
        unless(-2, 0 <= host <= 65535)
        unless(-3, host not in self.hosts or self.hosts[host]["port"] != port)
        unless(-4, host in self.hosts or len(self.hosts) < 256)
        self.hosts.setdefault(host, {"kept": {}})["port"] = port
        for group in sorted(self.hosts[host]["kept"]):
            self.retell(host, group)

    def do_unhost(self, host):
        unless(-1, host in self.hosts)
        unless(-2, self.hosts[host]["port"] >= 0)
        self.hosts[host]["port"] = -1

    def may_tell(self, host, group, form):
        unless(-1, host in self.hosts)
        self.group_ok(group)
        unless(-3, form)
        unless(-4, group in self.hosts[host]["kept"] or len(self.hosts[host]["kept"]) < 64)

    def do_want(self, host, group, mode, row):
        self.may_tell(host, group, mode in (0, 1) and row_ok(row))
        self.tell(host, group, (0, (mode == 1, frozenset(row))))

    def do_more(self, host, group, row, kind=1):
        self.may_tell(host, group, row_ok(row))
        before = self.hosts[host]["kept"].get(group, (0, (False, frozenset())))[1]
        unless(-5, len(stepped((kind, row), before)[1]) <= 64)
        self.tell(host, group, (kind, row))

    def do_less(self, host, group, row):
        self.do_more(host, group, row, 2)

    def do_join(self, port, group):
        self.port_ok(port)
        self.group_ok(group)
        if (port, group) not in self.plain and not self.room():
            self.full += 1
            return [1]
        self.plain[port, group] = self.now + self.stay

    def do_leave(self, port, group):
        self.port_ok(port)
        self.group_ok(group)
        unless(-3, (port, group) in self.plain)
        if self.plain[port, group] > self.now + self.last:
            self.plain[port, group] = self.now + self.last
        self.send("query", port, group)

    def do_foreign(self, port, number):
        self.port_ok(port)
        unless(-2, 0 <= number < SOURCE_END and number != self.me)
        self.heard[port] = self.now + self.stay
        if number < self.me:
            self.silent = self.now + self.stay

    def do_asker(self, port, x):
        self.port_ok(port)
        unless(-2, x in (0, 1))
        self.fixed = self.fixed | {port} if x == 1 else self.fixed - {port}

    def do_tick(self, n):
        unless(-1, 1 <= n <= NOW_END)
        unless(-2, self.now + n <= NOW_END)
        self.now += n
        self.entries = [entry for entry in self.entries if entry["until"] > self.now]
        self.plain = {key: until for key, until in self.plain.items() if until > self.now}
        self.heard = {key: until for key, until in self.heard.items() if until > self.now}
        if not self.silent > self.now and not self.next > self.now:
            self.next = self.now + self.every
            for port in range(self.ports):
                self.send("query", port, -1)

    def in_bag(self, k):
        unless(-1, 0 <= k < len(self.bag))

    def do_deliver(self, k):
        self.in_bag(k)
        message = self.bag[k]
        self.bag = self.bag[:k] + self.bag[k + 1:]
        getattr(self, "hand_" + message[0])(*message[1:])

    def hand_report(self, host, port, group, serial, sent, step):
        if not sent + self.stay > self.now:
            return
        found = [entry for entry in self.entries if (entry["group"], entry["host"]) == (group, host)]
        if found and not serial > found[0]["serial"]:
            return
        if step[0] == 0:
            fresh = {"group": group, "host": host, "port": port, "serial": serial, "want": step[1]}
            fresh["until"] = sent + self.stay
            if not found and not self.room():
                self.full += 1
                return
            self.entries = [entry for entry in self.entries if entry not in found] + [fresh]
        elif found and serial == found[0]["serial"] + 1 and port == found[0]["port"]:
            found[0].update(want=stepped(step, found[0]["want"]), serial=serial, until=sent + self.stay)
        else:
            self.send("query", port, group)

    def hand_query(self, port, group):
        for host in sorted(host for host in self.hosts if self.hosts[host]["port"] == port):
            for kept in sorted(self.hosts[host]["kept"]):
                if group in (-1, kept):
                    self.retell(host, kept)

    def do_lose(self, k):
        self.in_bag(k)
        self.bag = self.bag[:k] + self.bag[k + 1:]

    def do_double(self, k):
        self.in_bag(k)
        unless(-2, len(self.bag) < self.bag_size)
        self.bag.append(self.bag[k])

    def do_ask(self, port, group):
        self.port_ok(port)
        if group != -1:
            self.group_ok(group)
        self.send("query", port, group)

    def do_frame(self, port, group, source):
        self.port_ok(port)
        self.group_ok(group)
        unless(-2, 0 <= source < SOURCE_END)
        ports = []
        for other in range(self.ports):
            given = group < 256 or other in self.fixed or other in self.heard
            if other != port and (given or has(self.record(other, group), source)):
                ports.append(other)
        hosts = []
        for host in sorted(self.hosts):
            kept = self.hosts[host]["kept"]
            if self.hosts[host]["port"] in ports and group in kept and has(kept[group][1], source):
                hosts.append(host)
        return [0, len(ports), *ports, len(hosts), *hosts]

    def do_record(self, port, group):
        self.port_ok(port)
        self.group_ok(group)
        return [0, *want_numbers(self.record(port, group))]

    def do_upward(self, group):
        self.group_ok(group, -1)
        return [0, *want_numbers(either([self.record(port, group) for port in range(self.ports)]))]

    def do_entry(self, host, group):
        for entry in self.entries:
            if (entry["host"], entry["group"]) == (host, group):
                start = [0, entry["port"], entry["serial"], entry["until"] - self.now]
                return start + want_numbers(entry["want"])
        return [-1]

    def do_hostof(self, host):
        unless(-1, host in self.hosts)
        given = [0, self.hosts[host]["port"], len(self.hosts[host]["kept"])]
        for group, (serial, want) in sorted(self.hosts[host]["kept"].items()):
            given += [group, serial, *want_numbers(want)]
        return given

    def do_bag(self):
        given = [0, len(self.bag)]
        for message in self.bag:
            given += [1, *message[1:]] if message[0] == "query" else [0, *message[1:6], *step_numbers(message[6])]
        return given

    def do_groups(self, port):
        self.port_ok(port)
        every = {entry["group"] for entry in self.entries} | {group for other, group in self.plain}
        groups = [group for group in sorted(every) if want_numbers(self.record(port, group)) != [0, 0]]
        return [0, len(groups), *groups]

    def do_merge(self, mode_one, mode_other, one, other):
        unless(-1, {mode_one, mode_other} <= {0, 1} and row_ok(one) and row_ok(other))
        return [0, *want_numbers(either([(mode_one == 1, frozenset(one)), (mode_other == 1, frozenset(other))]))]

    def do_steps(self, mode_one, mode_other, one, other):
        unless(-1, {mode_one, mode_other} <= {0, 1} and row_ok(one) and row_ok(other))
        if mode_one != mode_other:
            return [0, 1, 0, mode_other, len(other), *other]
        first, second = (mode_one == 1, one), (mode_one == 1, other)
        both = sorted({*one, *other})
        allowed = [source for source in both if has(second, source) and not has(first, source)]
        blocked = [source for source in both if has(first, source) and not has(second, source)]
        steps = [(kind, row) for kind, row in ((1, allowed), (2, blocked)) if row]
        return [0, len(steps)] + sum(map(step_numbers, steps), [])

    def do_counts(self):
        rests = [max(0, self.silent - self.now), max(0, self.next - self.now)]
        return [0, self.now, self.lost, self.full, len(self.entries), len(self.plain), *rests, len(self.bag)]


LOOKS = ("record", "upward", "entry", "hostof", "groups", "bag")
NAMES = ["deliver"] * 10 + (
    "host host host unhost want want want want more more more less less less join leave foreign asker tick "
    "lose double double ask ask frame frame frame record upward entry entry hostof groups merge steps counts"
).split()


class Chance:
    """Draws the arguments of calls, mostly good ones from few values, so that they meet."""

    def __init__(self, seed):
        self.random = random.Random(seed)
        self.ports = self.random.choice((1, 2, 2, 3, 5))
        self.model = Model()

    def one_of(self, usual, seldom):
        return self.random.choice(seldom if self.random.random() < 0.03 else usual)

    def port(self):
        return self.one_of(range(self.ports), (-1, self.ports, LOW, HIGH))

    def host(self):
        return self.one_of((0, 1, 1, 2, 65535), (-1, 65536, 77, LOW, HIGH))

    def group(self):
        return self.one_of((300, 300, 300, 300, 301, 301, 255, 256, GROUP_END - 1), (-1, -2, GROUP_END, 0, LOW, HIGH))

    def source(self):
        return self.one_of((0, 1, 2, 3, 4, 5, SOURCE_END - 1), (-1, SOURCE_END, LOW, HIGH))

    def mode(self):
        return self.one_of((0, 1), (-1, 2, LOW, HIGH))

    def row(self):
        kind = self.random.random()
        if kind < 0.03:
            return [self.source() for times in range(self.random.randrange(128))]
        if kind < 0.08:
            return sorted(self.random.sample(range(100), self.random.choice((30, 50, 63, 64, 65))))
        return sorted({self.source() for times in range(self.random.randrange(5))})

    def place(self):
        size = len(self.model.bag)
        return self.one_of(range(max(1, size)), (-1, size, size + 1, LOW, HIGH))

    def begin(self):
        pick = self.random.choice
        told = [self.ports, pick((0, 3, 9)), pick((10, 40, 1000)), pick((1, 30, 1000)), pick((1, 4, 100))]
        return ["begin"] + told + [pick((1, 5, 20, 20, 1024)), pick((1, 6, 6, 4096))]

    def call(self, name):
        drawn = {
            "host": ("host", "port"), "unhost": ("host",), "want": ("host", "group", "mode", "row"),
            "more": ("host", "group", "row"), "less": ("host", "group", "row"), "join": ("port", "group"),
            "leave": ("port", "group"), "foreign": ("port", "source"), "deliver": ("place",), "lose": ("place",),
            "asker": ("port", "mode"), "double": ("place",), "ask": ("port", "group"),
            "frame": ("port", "group", "source"), "record": ("port", "group"), "upward": ("group",),
            "entry": ("host", "group"), "hostof": ("host",), "groups": ("port",),
            "merge": ("mode", "mode", "row", "row"), "steps": ("mode", "mode", "row", "row"),
        }
        if name == "tick":
            return [name, self.one_of((1, 1, 2, 3), (0, 10, 50, NOW_END, NOW_END + 1, LOW, HIGH, NOW_END - 1000))]
        return [name] + [getattr(self, part)() for part in drawn.get(name, ())]

    def line(self):
        """The calls of a line within the document's bounds, and the model's answers."""
        calls = [self.call("counts"), self.call("merge"), self.begin()]
        wanted = [self.model.answer(*call) for call in calls]
        looks = 0
        listed = 0
        while len(calls) < 390 and looks < 94 and listed < 3600:
            name = self.random.choice(NAMES)
            if len(calls) % 65 == 64:
                name = "bag"
            elif self.random.random() < 0.005:
                name = "restart"
            call = self.begin() if self.random.random() < 0.002 else self.call(name)
            looks += call[0] in LOOKS
            listed += sum(len(part) for part in call if isinstance(part, list))
            calls.append(call)
            wanted.append(self.model.answer(*call))
        for host in (0, 1, 65535):
            calls.append(["hostof", host])
        calls.append(["counts"])
        return calls, wanted + [self.model.answer(*call) for call in calls[-4:]]


class Beside(unittest.TestCase):
    def test_lines_drawn_by_chance(self):
        for seed in range(60):
            calls, wanted = Chance(seed).line()
            given = answered(calls)
            self.assertEqual(len(given), len(wanted))
            for place, call in enumerate(calls):
                self.assertEqual(given[place], wanted[place], f"seed {seed}, place {place}: {call}")

    def test_chance_reaches_each_refusal_and_each_answer(self):
        met = {}
        for seed in range(60):
            calls, wanted = Chance(seed).line()
            for call, answer in zip(calls, wanted):
                met.setdefault(call[0], set()).add(answer[0] if len(answer) == 1 else "more")
        self.assertLessEqual({-1, -2, -3, 0}, met["host"])
        self.assertLessEqual({-1, -2, -3, -5, 0}, met["more"])
        self.assertLessEqual({-1, -2, -3, -5, 0}, met["less"])
        self.assertLessEqual({0, 1, -1, -2}, met["join"])
        self.assertLessEqual({0, -1, -2, -3}, met["leave"])
        self.assertLessEqual({0, -1, -2}, met["double"])
        for name in ("frame", "record", "entry", "hostof", "groups", "merge", "steps", "upward"):
            self.assertLessEqual({-1, "more"}, met[name])
