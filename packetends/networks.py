"""The calls: how they are handed in, when they are refused, and their answers in order."""

from packetends.headers import is_pattern
from packetends.questions import answer_to
from packetends.reading import NotANetwork
from packetends.reading import read_network
from packetends.ways import AT_EXIT
from packetends.ways import ROUND

NET = 0
USED = 13
MOST_LISTED = 5

NOT_TOLD = -1
NO_SWITCH = -2
NO_HEADER = -3
NO_EXIT = -4
NO_PATTERN = -5
NO_KIND = -6
NO_LINK = -7
NO_NETWORK = -8
NO_RULE = -9

# What each call is handed in whole numbers, in order.
HANDED = (
    (),
    (),
    ("switch", "header"),
    ("switch",),
    ("switch", "exit"),
    ("switch", "kind"),
    ("switch", "switch"),
    ("switch", "exit"),
    ("switch", "pattern", "switch"),
    ("switch", "switch", "pattern"),
    ("kind",),
    ("switch",),
    ("switch", "link"),
    ("switch", "rule"),
    ("switch", "header"),
)


def numbers_for(word):
    return 2 if word in ("exit", "pattern") else 1


def call_at(calls, place):
    """The call that stands there: its number, its whole numbers, its row, and where the next call stands."""
    call = calls[place]
    start = place + 1
    after = start + sum([numbers_for(word) for word in HANDED[call]])
    numbers = calls[start:after]
    if call not in (NET, USED):
        return (call, numbers, [], after)
    row_start = after + 1
    row_end = row_start + calls[after]
    return (call, numbers, calls[row_start:row_end], row_end)


def refusal_of(network, word, numbers, place):
    """The refusal of what is handed over at the place for one word, 0 if it is not refused."""
    number = numbers[place]
    if word == "switch" and not network.has_switch(number):
        return NO_SWITCH
    if word == "header" and not network.has_header(number):
        return NO_HEADER
    if word == "exit" and not network.has_exit(number, numbers[place + 1]):
        return NO_EXIT
    if word == "pattern" and not is_pattern((number, numbers[place + 1]), network.size):
        return NO_PATTERN
    if word == "kind" and not (AT_EXIT <= number <= ROUND):
        return NO_KIND
    if word == "link" and not network.has_link(number):
        return NO_LINK
    # A rule is one of the switch that is handed over just before it.
    if word == "rule" and not network.has_rule(numbers[place - 1], number):
        return NO_RULE
    return 0


def refusal_of_row(network, switches):
    if len(switches) > MOST_LISTED:
        return NO_SWITCH
    for switch in switches:
        if not network.has_switch(switch):
            return NO_SWITCH
    return 0


def first_refusal(network, words, numbers, row):
    place = 0
    for word in words:
        refusal = refusal_of(network, word, numbers, place)
        if refusal != 0:
            return refusal
        place += numbers_for(word)
    return refusal_of_row(network, row)


def network_told(numbers):
    """The network that the list tells, None if it tells none."""
    try:
        return read_network(numbers)
    except NotANetwork:
        return None


def answer_net(network):
    if network is None:
        return [NOT_TOLD]
    at_exits = [end for end in network.ends.values() if end[0] == AT_EXIT]
    return [len(network.tables), network.width, len(at_exits)]


def answer_call(network, call, numbers, row):
    """What a call other than net answers."""
    if network is None:
        return [NO_NETWORK]
    refusal = first_refusal(network, HANDED[call], numbers, row)
    if refusal != 0:
        return [refusal]
    return answer_to(network, call, numbers + row)


def answers(calls):
    """The answers to a list of calls on one new object, each with its length before it."""
    network = None
    given = []
    place = 0
    while place < len(calls):
        found = call_at(calls, place)
        place = found[3]
        if found[0] == NET:
            told = network_told(found[2])
            answer = answer_net(told)
            if told is not None:
                network = told
        else:
            answer = answer_call(network, found[0], found[1], found[2])
        given.append(len(answer))
        given.extend(answer)
    return given
