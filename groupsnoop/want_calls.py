"""The calls that only reckon with wants: merge, steps."""

from groupsnoop.ranges import is_row
from groupsnoop.shown import step_shown
from groupsnoop.shown import want_shown
from groupsnoop.wants import is_mode
from groupsnoop.wants import merged
from groupsnoop.wants import steps_between


def call_merge(mode_one, mode_other, one, other):
    if not are_wants(mode_one, mode_other, one, other):
        return [-1]
    return [0] + want_shown(merged([(mode_one, tuple(one)), (mode_other, tuple(other))]))


def call_steps(mode_one, mode_other, one, other):
    if not are_wants(mode_one, mode_other, one, other):
        return [-1]
    steps = steps_between((mode_one, tuple(one)), (mode_other, tuple(other)))
    answer = [0, len(steps)]
    for step in steps:
        answer.extend(step_shown(step))
    return answer


def are_wants(mode_one, mode_other, one, other):
    return is_mode(mode_one) and is_mode(mode_other) and is_row(one) and is_row(other)
