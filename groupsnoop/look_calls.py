"""The calls that look at what there is: record, upward, entry, hostof, bag, groups, counts."""

from groupsnoop.ranges import is_group
from groupsnoop.shown import counted
from groupsnoop.shown import message_shown
from groupsnoop.shown import want_shown
from groupsnoop.wants import merged


def call_record(net, port, group):
    if not net.has_port(port):
        return [-1]
    if not is_group(group):
        return [-2]
    return [0] + want_shown(net.switch.record(port, group))


def call_upward(net, group):
    if not is_group(group):
        return [-1]
    return [0] + want_shown(merged([net.switch.record(port, group) for port in range(net.ports)]))


def call_entry(net, host, group):
    entry = net.switch.entries.get((group, host))
    if entry is None:
        return [-1]
    return [0, entry.port, entry.serial, entry.until - net.now] + want_shown(entry.want)


def call_hostof(net, number):
    host = net.hosts.get(number)
    if host is None:
        return [-1]
    answer = [0, host.port, len(host.wants)]
    for group in sorted(host.wants):
        answer.extend([group, host.serials[group]])
        answer.extend(want_shown(host.wants[group]))
    return answer


def call_bag(net):
    answer = [0, len(net.bag)]
    for message in net.bag:
        answer.extend(message_shown(message))
    return answer


def call_groups(net, port):
    if not net.has_port(port):
        return [-1]
    return [0] + counted(net.switch.groups_wanted(port))


def call_counts(net):
    switch = net.switch
    return [
        0, net.now, net.lost, net.full, len(switch.entries), len(switch.plain),
        net.rest_of(switch.silent), net.rest_of(switch.next_query), len(net.bag),
    ]
