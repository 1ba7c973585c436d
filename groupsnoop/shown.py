"""Wants, steps and messages as the numbers with which they are answered."""

from groupsnoop.messages import Report
from groupsnoop.wants import is_set

REPORT = 0
QUERY = 1


def want_shown(want):
    return [want[0]] + counted(want[1])


def step_shown(step):
    if is_set(step):
        return [step[0]] + want_shown(step[1])
    return [step[0]] + counted(step[1])


def message_shown(message):
    if isinstance(message, Report):
        start = [REPORT, message.host, message.port, message.group, message.serial, message.sent]
        return start + step_shown(message.step)
    return [QUERY, message.port, message.group]


def counted(numbers):
    return [len(numbers)] + list(numbers)
