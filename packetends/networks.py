"""The calls, and what they answer."""

from packetends.headers import set_numbers
from packetends.reading import NotANetwork
from packetends.reading import read_network
from packetends.ways import AT_EXIT
from packetends.ways import ROUND
from packetends.ways import first_settled
from packetends.ways import way_of

NET = 0
USED = 13
SHOWN_PACKETS = 60

NOT_TOLD = -1
NO_SWITCH = -2
NO_HEADER = -3
NO_EXIT = -4
NO_KIND = -6
NO_NETWORK = -8

# What each call is handed in whole numbers, in order. The calls from 8 on are
# here too, since they must be read to be refused while there is no network.
HANDED = (
    (),
    (),
    ("switch", "header"),
    ("switch",),
    ("switch", "exit"),
    ("switch", "kind"),
    ("switch", "switch"),
    ("switch", "exit"),
    ("switch", "pattern", "switch"),
    ("switch", "switch", "pattern"),
    ("kind",),
    ("switch",),
    ("switch", "link"),
    ("switch", "rule"),
    ("switch", "header"),
)


def numbers_for(word):
    return 2 if word in ("exit", "pattern") else 1


def call_at(calls, place):
    """The call that stands there: its number, its whole numbers, its row, and where the next call stands."""
    call = calls[place]
    start = place + 1
    after = start + sum([numbers_for(word) for word in HANDED[call]])
    numbers = calls[start:after]
    if call not in (NET, USED):
        return (call, numbers, [], after)
    row_start = after + 1
    row_end = row_start + calls[after]
    return (call, numbers, calls[row_start:row_end], row_end)


def refusal_of(network, word, numbers):
    """The refusal of what is handed over for one word, 0 if it is not refused."""
    if word == "switch" and not network.has_switch(numbers[0]):
        return NO_SWITCH
    if word == "header" and not network.has_header(numbers[0]):
        return NO_HEADER
    if word == "exit" and not network.has_exit(numbers[0], numbers[1]):
        return NO_EXIT
    if word == "kind" and not (AT_EXIT <= numbers[0] <= ROUND):
        return NO_KIND
    return 0


def first_refusal(network, words, numbers):
    start = 0
    for word in words:
        after = start + numbers_for(word)
        refusal = refusal_of(network, word, numbers[start:after])
        if refusal != 0:
            return refusal
        start = after
    return 0


def network_told(numbers):
    """The network that the list tells, None if it tells none."""
    try:
        return read_network(numbers)
    except NotANetwork:
        return None


def answer_net(network):
    if network is None:
        return [NOT_TOLD]
    at_exits = [end for end in network.ends.values() if end[0] == AT_EXIT]
    return [len(network.tables), network.width, len(at_exits)]


def answer_told(network, numbers):
    return [len(network.numbers)] + network.numbers


def answer_way(network, numbers):
    packet = (numbers[0], numbers[1])
    packets = way_of(network.onward, packet)
    answer = list(network.ends[packet])
    answer.append(len(packets))
    for passed in packets[:SHOWN_PACKETS]:
        answer.extend(passed)
    return answer


def without_header(end):
    # Only an exit's end has a fourth number, and that is its header.
    return end[:3]


def answer_ends(network, numbers):
    counts = {}
    for end in network.ends_from(numbers[0]):
        told = without_header(end)
        counts[told] = counts.get(told, 0) + 1
    answer = [len(counts)]
    # The numbers of the kinds, and those behind them, rise in the order asked for.
    for told in sorted(counts):
        answer.extend(told)
        answer.append(counts[told])
    return answer


def answer_toexit(network, numbers):
    wanted = (AT_EXIT, numbers[1], numbers[2])
    return set_numbers([without_header(end) == wanted for end in network.ends_from(numbers[0])])


def answer_tokind(network, numbers):
    return set_numbers([end[0] == numbers[1] for end in network.ends_from(numbers[0])])


def answer_passing(network, numbers):
    there = {}
    for header in range(network.size):
        there[(numbers[1], header)] = True
    passes = first_settled(network.onward, there, False)
    return set_numbers([passes[(numbers[0], header)] for header in range(network.size)])


def answer_outat(network, numbers):
    wanted = (AT_EXIT, numbers[1], numbers[2])
    members = [False for header in range(network.size)]
    for end in network.ends_from(numbers[0]):
        if without_header(end) == wanted:
            members[end[3]] = True
    return set_numbers(members)


ANSWERS = {
    1: answer_told,
    2: answer_way,
    3: answer_ends,
    4: answer_toexit,
    5: answer_tokind,
    6: answer_passing,
    7: answer_outat,
}


def answer_call(network, call, numbers):
    """What a call other than net answers."""
    if network is None:
        return [NO_NETWORK]
    if call not in ANSWERS:
        raise NotImplementedError(f"call {call} is not built yet")
    refusal = first_refusal(network, HANDED[call], numbers)
    if refusal != 0:
        return [refusal]
    return ANSWERS[call](network, numbers)


def answers(calls):
    """The answers to a list of calls on one new object, each with its length before it."""
    network = None
    given = []
    place = 0
    while place < len(calls):
        found = call_at(calls, place)
        place = found[3]
        if found[0] == NET:
            told = network_told(found[2])
            answer = answer_net(told)
            if told is not None:
                network = told
        else:
            answer = answer_call(network, found[0], found[1])
        given.append(len(answer))
        given.extend(answer)
    return given
