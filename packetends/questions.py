"""What the calls other than net answer on a network, where they are not refused.

Each of them is handed the network and the call's numbers, a row's among them.
"""

from packetends.headers import set_numbers
from packetends.headers import set_of
from packetends.ways import AT_EXIT
from packetends.ways import ROUND
from packetends.ways import first_settled
from packetends.ways import packets_passed
from packetends.ways import round_of
from packetends.ways import way_lengths
from packetends.ways import way_of

SHOWN_PACKETS = 60
EVERY_HEADER = (0, 0)


def packet_numbers(packets):
    """How many packets there are, then the first of them."""
    numbers = [len(packets)]
    for packet in packets[:SHOWN_PACKETS]:
        numbers.extend(packet)
    return numbers


def without_header(end):
    # Only an exit's end has a fourth number, and that is its header.
    return end[:3]


def headers_passing(network, switch, packets):
    """The set of the switch's headers in whose way there is one of the packets."""
    wanted = {}
    for packet in packets:
        wanted[packet] = True
    passes = first_settled(network.onward, wanted, False)
    return [passes[(switch, header)] for header in range(network.size)]


def answer_told(network, numbers):
    return [len(network.numbers)] + network.numbers


def answer_way(network, numbers):
    packet = (numbers[0], numbers[1])
    return list(network.ends[packet]) + packet_numbers(way_of(network.onward, packet))


def answer_ends(network, numbers):
    counts = {}
    for end in network.ends_from(numbers[0]):
        told = without_header(end)
        counts[told] = counts.get(told, 0) + 1
    answer = [len(counts)]
    # The numbers of the kinds, and those behind them, rise in the order asked for.
    for told in sorted(counts):
        answer.extend(told)
        answer.append(counts[told])
    return answer


def answer_toexit(network, numbers):
    wanted = (AT_EXIT, numbers[1], numbers[2])
    return set_numbers([without_header(end) == wanted for end in network.ends_from(numbers[0])])


def answer_tokind(network, numbers):
    return set_numbers([end[0] == numbers[1] for end in network.ends_from(numbers[0])])


def answer_passing(network, numbers):
    there = network.packets_at(numbers[1], EVERY_HEADER)
    return set_numbers(headers_passing(network, numbers[0], there))


def answer_outat(network, numbers):
    wanted = (AT_EXIT, numbers[1], numbers[2])
    headers = [end[3] for end in network.ends_from(numbers[0]) if without_header(end) == wanted]
    return set_numbers(set_of(headers, network.size))


def answer_arriving(network, numbers):
    starts = network.packets_at(numbers[0], (numbers[1], numbers[2]))
    passed = packets_passed(network.onward, starts)
    headers = [header for switch, header in passed if switch == numbers[3]]
    return set_numbers(set_of(headers, network.size))


def answer_leading(network, numbers):
    there = network.packets_at(numbers[1], (numbers[2], numbers[3]))
    return set_numbers(headers_passing(network, numbers[0], there))


def answer_least(network, numbers):
    for switch in range(len(network.tables)):
        for header, end in enumerate(network.ends_from(switch)):
            if end[0] == numbers[0]:
                return [1, switch, header]
    return [0]


def answer_longest(network, numbers):
    starts = [packet for packet in network.packets_at(numbers[0], EVERY_HEADER) if network.ends[packet][0] != ROUND]
    if len(starts) == 0:
        return [0]
    lengths = way_lengths(network.onward, starts)
    most = max([lengths[packet] for packet in starts])
    least = min([packet[1] for packet in starts if lengths[packet] == most])
    return [1, most, least]


def answer_overlink(network, numbers):
    link = network.links[numbers[1]]
    sent = [packet for packet, port in network.sent_by.items() if port in link]
    return set_numbers(headers_passing(network, numbers[0], sent))


def answer_used(network, numbers):
    at_rule = (numbers[0], numbers[1])
    starts = []
    for switch in numbers[2:]:
        starts.extend(network.packets_at(switch, EVERY_HEADER))
    passed = packets_passed(network.onward, starts)
    headers = [packet[1] for packet in passed if (packet[0], network.counting[packet]) == at_rule]
    return set_numbers(set_of(headers, network.size))


def answer_loop(network, numbers):
    return packet_numbers(round_of(network.onward, (numbers[0], numbers[1])))


ANSWERS = {
    1: answer_told,
    2: answer_way,
    3: answer_ends,
    4: answer_toexit,
    5: answer_tokind,
    6: answer_passing,
    7: answer_outat,
    8: answer_arriving,
    9: answer_leading,
    10: answer_least,
    11: answer_longest,
    12: answer_overlink,
    13: answer_used,
    14: answer_loop,
}


def answer_to(network, call, numbers):
    return ANSWERS[call](network, numbers)
