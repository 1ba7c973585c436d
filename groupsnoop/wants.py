"""Wants, and the steps that change them.

A want is a tuple (mode, listed), a step is (kind, what): a want for SET, a
rising tuple of sources for ALLOW and BLOCK. As tuples they can be shared by a
host, its reports and the switch, and none can change another's.
"""

ONLY = 0
BUT = 1
NOTHING = (0, ())

SET = 0
ALLOW = 1
BLOCK = 2


def is_mode(number):
    return number == ONLY or number == BUT


def listed_in(want):
    return want[1]


def is_set(step):
    return step[0] == SET


def want_made(step, want):
    if is_set(step):
        return step[1]
    mode = want[0]
    # "But" lists what is not wanted: there allowing shortens the list.
    if (step[0] == ALLOW) == (mode == ONLY):
        return (mode, tuple(sorted(set(want[1]) | set(step[1]))))
    return (mode, tuple(sorted(set(want[1]) - set(step[1]))))
