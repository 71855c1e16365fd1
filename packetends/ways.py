"""Networks, the steps of their packets, and where the ways of these end.

A packet is a pair: its switch, its header. A port is a pair: its switch, its
number there. An end is a tuple of the numbers that tell it.
"""

from packetends.headers import matches
from packetends.headers import rewritten

AT_EXIT = 0
DROPPED = 1
HOLE = 2
ROUND = 3
PORTS = 6


class Rule:
    def __init__(self, pattern, drops, rewrite, port):
        self.pattern = pattern
        self.drops = drops
        self.rewrite = rewrite
        self.port = port


class Network:
    """A network, with each packet's step and the end of each packet's way.

    counting: for each packet the number of the rule that counts, None if there is none.
    onward: for each packet the one that it becomes by a step, None if it ends.
    sent_by: for each packet that becomes another one, the port by which it is sent on.
    stops: for each packet that ends by its own step, the end.
    ends: for each packet the end of its way.
    """

    def __init__(self, numbers, width, tables, links):
        self.numbers = numbers
        self.width = width
        self.size = 1 << width
        self.tables = tables
        self.links = links
        self.far = far_ports(links)
        self.counting = {}
        self.onward = {}
        self.sent_by = {}
        self.stops = {}
        for switch in range(len(tables)):
            for header in range(self.size):
                self.take_step(switch, header)
        self.ends = first_settled(self.onward, self.stops, (ROUND,))

    def take_step(self, switch, header):
        packet = (switch, header)
        self.onward[packet] = None
        number = rule_that_counts(self.tables[switch], header)
        self.counting[packet] = number
        if number is None:
            self.stops[packet] = (HOLE, switch)
            return
        rule = self.tables[switch][number]
        if rule.drops:
            self.stops[packet] = (DROPPED, switch, number)
            return
        changed = rewritten(header, rule.rewrite)
        port = (switch, rule.port)
        far = self.far.get(port)
        if far is None:
            self.stops[packet] = (AT_EXIT, switch, rule.port, changed)
        else:
            self.onward[packet] = (far[0], changed)
            self.sent_by[packet] = port

    def has_switch(self, switch):
        return 0 <= switch < len(self.tables)

    def has_header(self, header):
        return 0 <= header < self.size

    def has_exit(self, switch, port):
        return self.has_switch(switch) and 0 <= port < PORTS and (switch, port) not in self.far

    def has_link(self, link):
        return 0 <= link < len(self.links)

    def has_rule(self, switch, number):
        return 0 <= number < len(self.tables[switch])

    def packets_at(self, switch, pattern):
        """The switch's packets whose header matches the pattern."""
        return [(switch, header) for header in range(self.size) if matches(header, pattern)]

    def ends_from(self, switch):
        """The ends of the switch's headers, in the headers' order."""
        return [self.ends[(switch, header)] for header in range(self.size)]


def far_ports(links):
    """For each port in a link the one at the link's other end."""
    far = {}
    for one, other in links:
        far[one] = other
        far[other] = one
    return far


def rule_that_counts(table, header):
    """The number of the first rule that the header matches, None if there is none."""
    for number, rule in enumerate(table):
        if matches(header, rule.pattern):
            return number
    return None


def packets_passed(onward, starts):
    """The packets of the ways of all these packets, each once."""
    passed = {}
    for start in starts:
        packet = start
        while packet is not None and packet not in passed:
            passed[packet] = True
            packet = onward[packet]
    return list(passed)


def way_of(onward, packet):
    """The packets of a way, in order."""
    return packets_passed(onward, [packet])


def round_of(onward, packet):
    """The packets of a way from the first one to which it comes again, none if it does not go round."""
    again = onward[way_of(onward, packet)[-1]]
    # From there on the way is the round, which has no other packets.
    return [] if again is None else way_of(onward, again)


def way_lengths(onward, starts):
    """For each packet in the ways of these, none of which may go round, how many packets its own way has."""
    lengths = {}
    for start in starts:
        trail = []
        packet = start
        while packet is not None and packet not in lengths:
            trail.append(packet)
            packet = onward[packet]
        length = 0 if packet is None else lengths[packet]
        for passed in reversed(trail):
            length += 1
            lengths[passed] = length
    return lengths


def first_settled(onward, settled, otherwise):
    """For each packet what is settled of the first packet of its way that is in settled.

    It is otherwise for a packet in whose way there is none.
    """
    found = {}
    for start in onward:
        # Where a way comes to a packet that is found already it is not gone
        # again, so that all the ways together take a step a packet.
        trail = {}
        verdict = otherwise
        packet = start
        while packet is not None and packet not in trail:
            if packet in found:
                verdict = found[packet]
                break
            trail[packet] = True
            if packet in settled:
                verdict = settled[packet]
                break
            packet = onward[packet]
        for passed in trail:
            found[passed] = verdict
    return found
