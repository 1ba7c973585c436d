"""The messages that travel through the net."""

ALL_GROUPS = -1


class Report:
    def __init__(self, host, port, group, serial, sent, step):
        self.host = host
        self.port = port
        self.group = group
        self.serial = serial
        self.sent = sent
        self.step = step


class Query:
    def __init__(self, port, group):
        self.port = port
        self.group = group
