"""The calls of the switch: join, leave, foreign, asker, tick, ask, restart."""

from groupsnoop.messages import ALL_GROUPS
from groupsnoop.messages import Query
from groupsnoop.ranges import LAST_TIME
from groupsnoop.ranges import is_group
from groupsnoop.ranges import is_source


def call_join(net, port, group):
    if not net.has_port(port):
        return [-1]
    if not is_group(group):
        return [-2]
    switch = net.switch
    if (port, group) not in switch.plain and not switch.has_room():
        net.full += 1
        return [1]
    switch.plain[(port, group)] = net.now + net.stay
    return [0]


def call_leave(net, port, group):
    if not net.has_port(port):
        return [-1]
    if not is_group(group):
        return [-2]
    plain = net.switch.plain
    if (port, group) not in plain:
        return [-3]
    plain[(port, group)] = min(plain[(port, group)], net.now + net.last)
    net.send(Query(port, group))
    return [0]


def call_foreign(net, port, number):
    if not net.has_port(port):
        return [-1]
    if not is_source(number) or number == net.me:
        return [-2]
    switch = net.switch
    switch.heard[port] = net.now + net.stay
    if number < net.me:
        switch.silent = net.now + net.stay
    return [0]


def call_asker(net, port, x):
    if not net.has_port(port):
        return [-1]
    if x != 0 and x != 1:
        return [-2]
    switch = net.switch
    if x == 1:
        switch.fixed[port] = True
    else:
        switch.fixed.pop(port, None)
    return [0]


def call_tick(net, n):
    if not 1 <= n <= LAST_TIME:
        return [-1]
    if net.now + n > LAST_TIME:
        return [-2]
    net.now += n
    switch = net.switch
    switch.drop_outdated(net.now)
    if switch.may_ask(net.now):
        switch.next_query = net.now + net.every
        for port in range(net.ports):
            net.send(Query(port, ALL_GROUPS))
    return [0]


def call_ask(net, port, group):
    if not net.has_port(port):
        return [-1]
    if group != ALL_GROUPS and not is_group(group):
        return [-2]
    net.send(Query(port, group))
    return [0]


def call_restart(net):
    net.switch.forget()
    return [0]
