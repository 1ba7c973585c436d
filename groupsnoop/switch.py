"""The switch and what it keeps."""

from groupsnoop.ranges import is_local
from groupsnoop.wants import EVERYTHING
from groupsnoop.wants import NOTHING
from groupsnoop.wants import has_source
from groupsnoop.wants import merged


class Entry:
    def __init__(self, port, serial, want, until):
        self.port = port
        self.serial = serial
        self.want = want
        self.until = until


# The keys: (group, host) of entries, (port, group) of plain ones, ports of fixed and heard.
# The values of plain and heard are the times until which these stay.
class Switch:
    def __init__(self, most_entries):
        self.most_entries = most_entries
        self.entries = {}
        self.plain = {}
        self.fixed = {}
        self.heard = {}
        self.silent = 0
        self.next_query = 0

    def has_room(self):
        return len(self.entries) + len(self.plain) < self.most_entries

    def drop_outdated(self, now):
        for key in list(self.entries):
            if self.entries[key].until <= now:
                self.entries.pop(key)
        drop_past(self.plain, now)
        drop_past(self.heard, now)

    def may_ask(self, now):
        return self.silent <= now and self.next_query <= now

    # Fixed ports stay: they were told, not heard.
    def forget(self):
        self.entries.clear()
        self.plain.clear()
        self.heard.clear()
        self.silent = 0
        self.next_query = 0

    def record(self, port, group):
        wants = [self.entries[key].want for key in self.entries if key[0] == group and self.entries[key].port == port]
        if (port, group) in self.plain:
            wants.append(EVERYTHING)
        return merged(wants)

    # An entry may want nothing, so a group that has one need not be wanted.
    def groups_wanted(self, port):
        groups = [key[0] for key in self.entries if self.entries[key].port == port]
        groups.extend([key[1] for key in self.plain if key[0] == port])
        return [group for group in sorted(set(groups)) if self.record(port, group) != NOTHING]

    def gives(self, port, group, source):
        if is_local(group) or port in self.fixed or port in self.heard:
            return True
        return has_source(self.record(port, group), source)


def drop_past(times, now):
    for key in list(times):
        if times[key] <= now:
            times.pop(key)
