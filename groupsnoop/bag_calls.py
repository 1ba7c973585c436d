"""The calls of the bag: deliver, lose, double."""

from groupsnoop.handing import hand_over


def call_deliver(net, place):
    if not net.has_message(place):
        return [-1]
    # Out of the bag first: what is sent in answer may need its place.
    hand_over(net, net.bag.pop(place))
    return [0]


def call_lose(net, place):
    if not net.has_message(place):
        return [-1]
    net.bag.pop(place)
    return [0]


def call_double(net, place):
    if not net.has_message(place):
        return [-1]
    if net.bag_is_full():
        return [-2]
    # A message never changes, so the bag may hold it twice.
    net.bag.append(net.bag[place])
    return [0]
