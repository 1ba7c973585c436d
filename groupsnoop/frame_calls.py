"""The call frame: to which ports a frame goes, and which hosts take it."""

from groupsnoop.ranges import is_group
from groupsnoop.ranges import is_source
from groupsnoop.shown import counted
from groupsnoop.wants import has_source


def call_frame(net, port, group, source):
    if not net.has_port(port):
        return [-1]
    if not is_group(group) or not is_source(source):
        return [-2]
    ports = [other for other in range(net.ports) if other != port and net.switch.gives(other, group, source)]
    return [0] + counted(ports) + counted(takers(net, ports, group, source))


def takers(net, ports, group, source):
    return [number for number in sorted(net.hosts) if takes(net.hosts[number], ports, group, source)]


# A host goes by its own want: the switch may know an older one, or give for another's sake.
def takes(host, ports, group, source):
    return host.port in ports and has_source(host.want_of(group), source)
