"""Networks as they are told by numbers."""

from packetends.headers import is_pattern
from packetends.ways import Network
from packetends.ways import PORTS
from packetends.ways import Rule

MOST_BITS = 7
MOST_SWITCHES = 5
MOST_RULES = 8
MOST_LINKS = 10


class NotANetwork(ValueError):
    pass


class Numbers:
    """A list of numbers that are taken one after the other."""

    def __init__(self, numbers):
        self.numbers = numbers
        self.place = 0

    def at_end(self):
        return self.place == len(self.numbers)

    def take_any(self):
        """The number that comes."""
        if self.at_end():
            raise NotANetwork("the list is too short")
        number = self.numbers[self.place]
        self.place += 1
        return number

    def take(self, least, most):
        """The number that comes, which has to be one from least to most."""
        number = self.take_any()
        if number < least or number > most:
            raise NotANetwork("a number is out of its range")
        return number


def read_pattern(source, size):
    """A pattern, or a rewrite, which is told likewise."""
    told = source.take_any()
    pattern = (told, source.take_any())
    if not is_pattern(pattern, size):
        raise NotANetwork("two numbers are no pattern")
    return pattern


def read_rule(source, size):
    pattern = read_pattern(source, size)
    if source.take(0, 1) == 0:
        return Rule(pattern, True, (0, 0), 0)
    rewrite = read_pattern(source, size)
    port = source.take(0, PORTS - 1)
    return Rule(pattern, False, rewrite, port)


def read_table(source, size):
    return [read_rule(source, size) for number in range(source.take(0, MOST_RULES))]


def read_port(source, switches):
    switch = source.take(0, switches - 1)
    port = source.take(0, PORTS - 1)
    return (switch, port)


def read_links(source, switches):
    links = []
    linked = {}
    for number in range(source.take(0, MOST_LINKS)):
        one = read_port(source, switches)
        other = read_port(source, switches)
        if one == other or one in linked or other in linked:
            raise NotANetwork("a port is linked twice")
        linked[one] = True
        linked[other] = True
        links.append((one, other))
    return links


def read_network(numbers):
    """The network that the whole list tells; NotANetwork if it does not tell one."""
    source = Numbers(numbers)
    width = source.take(1, MOST_BITS)
    switches = source.take(1, MOST_SWITCHES)
    tables = [read_table(source, 1 << width) for switch in range(switches)]
    links = read_links(source, switches)
    if not source.at_end():
        raise NotANetwork("the list is too long")
    return Network(list(numbers), width, tables, links)
