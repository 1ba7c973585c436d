"""Messages handed over: reports to the switch, queries to the hosts."""

from groupsnoop.messages import ALL_GROUPS
from groupsnoop.messages import Query
from groupsnoop.messages import Report
from groupsnoop.net import retell
from groupsnoop.net import retell_all
from groupsnoop.switch import Entry
from groupsnoop.wants import NOTHING
from groupsnoop.wants import is_set
from groupsnoop.wants import want_made


def hand_over(net, message):
    if isinstance(message, Report):
        hand_report(net, message)
    else:
        hand_query(net, message)


def hand_report(net, report):
    if report.sent + net.stay <= net.now:
        return
    entry = net.switch.entries.get((report.group, report.host))
    if entry is None:
        begin_entry(net, report)
    elif report.serial > entry.serial:
        renew_entry(net, entry, report)


def begin_entry(net, report):
    if not is_set(report.step):
        ask_back(net, report)
    elif net.switch.has_room():
        put_entry(net, report, want_made(report.step, NOTHING))
    else:
        net.full += 1


def renew_entry(net, entry, report):
    if is_set(report.step) or follows(report, entry):
        put_entry(net, report, want_made(report.step, entry.want))
    else:
        ask_back(net, report)


# An allow or block means something only on top of the want that it was told upon.
def follows(report, entry):
    return report.serial == entry.serial + 1 and report.port == entry.port


def put_entry(net, report, want):
    switch = net.switch
    until = report.sent + net.stay
    switch.entries[(report.group, report.host)] = Entry(report.port, report.serial, want, until)


def ask_back(net, report):
    net.send(Query(report.port, report.group))


def hand_query(net, query):
    for host in net.hosts_at(query.port):
        if query.group == ALL_GROUPS:
            retell_all(net, host)
        else:
            retell(net, host, query.group)
