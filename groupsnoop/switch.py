"""The switch and what it keeps."""


class Entry:
    def __init__(self, port, serial, want, until):
        self.port = port
        self.serial = serial
        self.want = want
        self.until = until


# The keys: (group, host) of entries, (port, group) of plain ones, ports of fixed and heard.
# The values of plain and heard are the times until which these stay.
class Switch:
    def __init__(self, most_entries):
        self.most_entries = most_entries
        self.entries = {}
        self.plain = {}
        self.fixed = {}
        self.heard = {}
        self.silent = 0
        self.next_query = 0

    def has_room(self):
        return len(self.entries) + len(self.plain) < self.most_entries

    def drop_outdated(self, now):
        for key in list(self.entries):
            if self.entries[key].until <= now:
                self.entries.pop(key)
        drop_past(self.plain, now)
        drop_past(self.heard, now)

    def may_ask(self, now):
        return self.silent <= now and self.next_query <= now


def drop_past(times, now):
    for key in list(times):
        if times[key] <= now:
            times.pop(key)
