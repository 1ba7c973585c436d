"""All there is after begin: the hosts, the switch, the bag and the clock."""

from groupsnoop.hosts import NO_PORT
from groupsnoop.messages import Report
from groupsnoop.switch import Switch
from groupsnoop.wants import SET
from groupsnoop.wants import want_made


class Net:
    def __init__(self, ports, me, stay, every, last, most_messages, most_entries):
        self.ports = ports
        self.me = me
        self.stay = stay
        self.every = every
        self.last = last
        self.most_messages = most_messages
        self.now = 0
        self.hosts = {}
        self.switch = Switch(most_entries)
        self.bag = []
        self.lost = 0
        self.full = 0

    def has_port(self, port):
        return 0 <= port < self.ports

    def has_message(self, place):
        return 0 <= place < len(self.bag)

    def bag_is_full(self):
        return len(self.bag) >= self.most_messages

    def send(self, message):
        if self.bag_is_full():
            self.lost += 1
        else:
            self.bag.append(message)

    def rest_of(self, until):
        return max(0, until - self.now)

    def hosts_at(self, port):
        return [self.hosts[number] for number in sorted(self.hosts) if self.hosts[number].port == port]


def tell(net, host, group, step):
    host.wants[group] = want_made(step, host.want_of(group))
    serial = host.serials.get(group, 0)
    if host.port == NO_PORT:
        host.serials[group] = serial
        return
    host.serials[group] = serial + 1
    net.send(Report(host.number, host.port, group, serial + 1, net.now, step))


def retell(net, host, group):
    # A query may name a group of which the host never told: it must not begin to keep it.
    if host.port != NO_PORT and group in host.wants:
        tell(net, host, group, (SET, host.wants[group]))


def retell_all(net, host):
    for group in sorted(host.wants):
        retell(net, host, group)
