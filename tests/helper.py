"""What the tests share: calls as they are handed in, answers one by one, and networks."""

from packetends.networks import answers

LARGE = 10 ** 18

EXAMPLE = [2, 2, 2, 2, 2, 1, 0, 0, 0, 0, 0, 1, 1, 1, 1, 2, 3, 3, 0, 1, 1, 1, 0, 0, 2, 1, 0, 0, 1, 0]


def net(numbers):
    return [0, len(numbers)] + numbers


def told():
    return [1]


def way(switch, header):
    return [2, switch, header]


def ends(switch):
    return [3, switch]


def toexit(switch, exitswitch, port):
    return [4, switch, exitswitch, port]


def tokind(switch, kind):
    return [5, switch, kind]


def passing(switch, other):
    return [6, switch, other]


def outat(switch, exitswitch, port):
    return [7, switch, exitswitch, port]


def arriving(switch, pattern, other):
    return [8, switch] + list(pattern) + [other]


def leading(switch, other, pattern):
    return [9, switch, other] + list(pattern)


def least(kind):
    return [10, kind]


def longest(switch):
    return [11, switch]


def overlink(switch, link):
    return [12, switch, link]


def used(switch, rule, switches):
    return [13, switch, rule, len(switches)] + list(switches)


def loop(switch, header):
    return [14, switch, header]


def drop(pattern):
    return list(pattern) + [0]


def send(pattern, port, rewrite=(0, 0)):
    return list(pattern) + [1] + list(rewrite) + [port]


def network(width, tables, links=()):
    """The numbers of a network; a rule is a list of numbers, a link four numbers."""
    numbers = [width, len(tables)]
    for table in tables:
        numbers.append(len(table))
        for rule in table:
            numbers.extend(rule)
    numbers.append(len(links))
    for link in links:
        numbers.extend(link)
    return numbers


def split(given):
    """The answers one by one, without their lengths."""
    found = []
    place = 0
    while place < len(given):
        count = given[place]
        found.append(given[place + 1:place + 1 + count])
        assert len(found[-1]) == count
        place += 1 + count
    return found


def line(*calls):
    """The answers to these calls in one list."""
    together = []
    for call in calls:
        together.extend(call)
    return split(answers(together))


def on(numbers, *calls):
    """The answers to these calls on the network that the numbers tell."""
    found = line(net(numbers), *calls)
    assert found[0] != [-1], "the test's own network is refused"
    return found[1:]


def ask(numbers, call):
    return on(numbers, call)[0]


def counter(width, last):
    """A table that sends each header on by port 0 as the next one; last is the rule for the highest one."""
    rules = []
    for bit in range(width):
        mask = 2 ** (bit + 1) - 1
        rules.append(send((mask, 2 ** bit - 1), 0, (mask, 2 ** bit)))
    return rules + [last]
