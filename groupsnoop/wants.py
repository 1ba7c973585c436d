"""Wants, and the steps that change them.

A want is a tuple (mode, listed), a step is (kind, what): a want for SET, a
rising tuple of sources for ALLOW and BLOCK. As tuples they can be shared by a
host, its reports and the switch, and none can change another's.
"""

ONLY = 0
BUT = 1
NOTHING = (0, ())
EVERYTHING = (1, ())

SET = 0
ALLOW = 1
BLOCK = 2


def is_mode(number):
    return number == ONLY or number == BUT


def listed_in(want):
    return want[1]


def has_source(want, source):
    return (source in want[1]) == (want[0] == ONLY)


def is_set(step):
    return step[0] == SET


def want_made(step, want):
    if is_set(step):
        return step[1]
    mode = want[0]
    # "But" lists what is not wanted: there allowing shortens the list.
    if (step[0] == ALLOW) == (mode == ONLY):
        return (mode, tuple(sorted(set(want[1]) | set(step[1]))))
    return (mode, without(want[1], step[1]))


# All at once instead of two by two: else a long merging sorts its growing list again and again.
def merged(wants):
    allowed = {}
    unwanted = None
    for want in wants:
        if want[0] == ONLY:
            for source in want[1]:
                allowed[source] = True
        elif unwanted is None:
            unwanted = want[1]
        else:
            unwanted = sorted(set(unwanted) & set(want[1]))
    if unwanted is None:
        return (ONLY, tuple(sorted(allowed)))
    return (BUT, tuple([source for source in unwanted if source not in allowed]))


def steps_between(one, other):
    if one[0] != other[0]:
        return [(SET, other)]
    come = without(other[1], one[1])
    gone = without(one[1], other[1])
    # "But" lists what is not wanted: what is gone from its list is allowed.
    if one[0] == ONLY:
        return steps_with(come, gone)
    return steps_with(gone, come)


def steps_with(allowed, blocked):
    return [step for step in ((ALLOW, allowed), (BLOCK, blocked)) if len(step[1]) > 0]


def without(sources, others):
    return tuple(sorted(set(sources) - set(others)))
