"""The calls of the hosts: host, unhost, want, more, less."""

from groupsnoop.hosts import Host
from groupsnoop.hosts import NO_PORT
from groupsnoop.net import retell_all
from groupsnoop.net import tell
from groupsnoop.ranges import MOST_HOSTS
from groupsnoop.ranges import MOST_LISTED
from groupsnoop.ranges import is_group
from groupsnoop.ranges import is_host
from groupsnoop.ranges import is_row
from groupsnoop.wants import ALLOW
from groupsnoop.wants import BLOCK
from groupsnoop.wants import SET
from groupsnoop.wants import is_mode
from groupsnoop.wants import listed_in
from groupsnoop.wants import want_made


def call_host(net, number, port):
    if not net.has_port(port):
        return [-1]
    if not is_host(number):
        return [-2]
    host = net.hosts.get(number)
    if host is None:
        if len(net.hosts) >= MOST_HOSTS:
            return [-4]
        host = Host(number)
        net.hosts[number] = host
    elif host.port == port:
        return [-3]
    host.port = port
    retell_all(net, host)
    return [0]


def call_unhost(net, number):
    host = net.hosts.get(number)
    if host is None:
        return [-1]
    if host.port == NO_PORT:
        return [-2]
    host.port = NO_PORT
    return [0]


def call_want(net, number, group, mode, sources):
    refusal = telling_refused(net, number, group, is_mode(mode) and is_row(sources))
    if refusal < 0:
        return [refusal]
    tell(net, net.hosts[number], group, (SET, (mode, tuple(sources))))
    return [0]


def call_more(net, number, group, sources):
    return change_want(net, number, group, ALLOW, sources)


def call_less(net, number, group, sources):
    return change_want(net, number, group, BLOCK, sources)


def change_want(net, number, group, kind, sources):
    refusal = telling_refused(net, number, group, is_row(sources))
    if refusal < 0:
        return [refusal]
    host = net.hosts[number]
    step = (kind, tuple(sources))
    if len(listed_in(want_made(step, host.want_of(group)))) > MOST_LISTED:
        return [-5]
    tell(net, host, group, step)
    return [0]


# The refusals that want, more and less share; 0 where none of them holds.
def telling_refused(net, number, group, well_formed):
    if number not in net.hosts:
        return -1
    if not is_group(group):
        return -2
    if not well_formed:
        return -3
    if not net.hosts[number].can_keep(group):
        return -4
    return 0
