"""The answers on many made-up networks, beside those of a model that reads the document's words one by one."""

import random
import unittest

from tests.helper import (arriving, counter, ends, leading, least, line, longest, loop, net, network, outat, overlink,
                          passing, send, toexit, tokind, told, used, way)


def bit_text(header, width):
    return bin(header)[2:].zfill(width)


def model_matches(header, pattern, width):
    texts = [bit_text(number, width) for number in (header, pattern[0], pattern[1])]
    return all(t == "0" or h == b for h, t, b in zip(*texts))


def model_rule(made, switch, header):
    width, tables, links = made
    for number, rule in enumerate(tables[switch]):
        if model_matches(header, rule[:2], width):
            return number
    return None


def model_step(made, switch, header):
    width, tables, links = made
    text = bit_text(header, width)
    number = model_rule(made, switch, header)
    if number is None:
        return "end", (2, switch)
    rule = tables[switch][number]
    if rule[2] == 0:
        return "end", (1, switch, number)
    told_text, bits_text = bit_text(rule[3], width), bit_text(rule[4], width)
    out = int("".join(h if t == "0" else b for h, t, b in zip(text, told_text, bits_text)), 2)
    for a, b, c, d in links:
        if (a, b) == (switch, rule[5]):
            return "on", (c, out)
        if (c, d) == (switch, rule[5]):
            return "on", (a, out)
    return "end", (0, switch, rule[5], out)


def model_way(made, switch, header):
    packets = [(switch, header)]
    while True:
        word, what = model_step(made, *packets[-1])
        if word == "end":
            return what, packets
        if what in packets:
            return (3,), packets
        packets.append(what)


def model_port(made, packet):
    """The port by which the packet is sent, be it an exit or not; None if it is not sent."""
    number = model_rule(made, *packet)
    rule = [0, 0, 0] if number is None else made[1][packet[0]][number]
    return None if rule[2] == 0 else [packet[0], rule[5]]


def model_loop(made, packets):
    word, what = model_step(made, *packets[-1])
    return packets[packets.index(what):] if word == "on" else []


def model_form(texts, width):
    """The one form of a set of headers, each written as its bits; a pattern has a * where it tells nothing."""
    if width == 0:
        return [""] if texts else []
    zeros = sorted(text[1:] for text in texts if text[0] == "0")
    ones = sorted(text[1:] for text in texts if text[0] == "1")
    if zeros == ones:
        return ["*" + rest for rest in model_form(zeros, width - 1)]
    return ["0" + rest for rest in model_form(zeros, width - 1)] + ["1" + rest for rest in model_form(ones, width - 1)]


def model_set(headers, width):
    patterns = model_form([bit_text(header, width) for header in headers], width)
    answer = [len(headers), len(patterns)]
    for pattern in patterns:
        answer.append(int("".join("0" if sign == "*" else "1" for sign in pattern), 2))
        answer.append(int(pattern.replace("*", "0"), 2))
    return answer


def made_up(source):
    width = source.randint(1, 7)
    switches = source.randint(1, 5)

    def pair(few):
        mask = 0
        for bit in range(width):
            if source.random() < few:
                mask += 2 ** bit
        return [mask, mask & source.randrange(2 ** width)]

    few = source.choice([0.1, 0.3, 0.5])
    tables = []
    for switch in range(switches):
        table = []
        for number in range(source.randint(0, 8)):
            rule = pair(few) + ([0] if source.random() < 0.15 else [1] + pair(few) + [source.randrange(6)])
            table.append(rule)
        tables.append(table)
    ports = [(switch, port) for switch in range(switches) for port in range(6)]
    source.shuffle(ports)
    count = source.randint(0, min(10, len(ports) // 2))
    links = [list(ports[2 * link] + ports[2 * link + 1]) for link in range(count)]
    return width, tables, links


def winding(source):
    """A network with long ways and long rounds: each switch sends each header on as the next one."""
    width, switches = source.randint(3, 7), source.randint(1, 3)
    ports = [(switch, port) for switch in range(switches) for port in range(6)]
    source.shuffle(ports)
    links = [list(ports[place] + ports[place + 1]) for place in range(0, len(ports), 2)]
    tables = []
    for switch in range(switches):
        highest = 2 ** width - 1
        table = counter(width, send((0, 0), 0, (highest, source.randrange(highest + 1))))
        for rule in table:
            rule[5] = source.randrange(6)
        tables.append(table)
    # A link less leaves two exits; without one all ways go round.
    return width, tables, links[source.randrange(2):]


class ModelTest(unittest.TestCase):
    def check(self, made, source):
        width, tables, links = made
        size = 2 ** width
        numbers = network(width, tables, links)
        ways = {(switch, header): model_way(made, switch, header)
                for switch in range(len(tables)) for header in range(size)}
        calls = [net(numbers), told()]
        expected = [
            [len(tables), width, len([1 for end, packets in ways.values() if end[0] == 0])],
            [len(numbers)] + numbers,
        ]
        linked = [tuple(link[:2]) for link in links] + [tuple(link[2:]) for link in links]

        def expect(call, answer):
            calls.append(call)
            expected.append(answer)

        def headers_where(switch, holds):
            return [header for header in range(size) if holds(*ways[(switch, header)])]

        for ask in range(4):
            switch, header = source.randrange(len(tables)), source.randrange(size)
            end, packets = ways[(switch, header)]
            expect(way(switch, header), list(end) + [len(packets)] + [n for packet in packets[:60] for n in packet])
        for switch in range(len(tables)):
            found = [ways[(switch, header)][0] for header in range(size)]
            short = [end[:3] for end in found]
            expect(ends(switch), [len(set(short))] + [
                n for end in sorted(set(short)) for n in list(end) + [short.count(end)]])
            kind = source.randrange(4)
            expect(tokind(switch, kind), model_set(headers_where(switch, lambda end, way: end[0] == kind), width))
            other = source.randrange(len(tables))
            passes = headers_where(switch, lambda end, way: any(packet[0] == other for packet in way))
            expect(passing(switch, other), model_set(passes, width))
            exits = [end[1:3] for end in found if end[0] == 0] + [(source.randrange(len(tables)), source.randrange(6))]
            place = source.choice(exits)
            those = headers_where(switch, lambda end, way: end[0] == 0 and end[1:3] == place)
            outs = sorted({found[header][3] for header in those})
            expect(toexit(switch, *place), [-4] if place in linked else model_set(those, width))
            expect(outat(switch, *place), [-4] if place in linked else model_set(outs, width))
        self.assertEqual(line(*calls), expected)

    def check_from_arriving_on(self, made, source):
        width, tables, links = made
        size, switches = 2 ** width, range(len(tables))
        ways = {(switch, header): model_way(made, switch, header) for switch in switches for header in range(size)}
        calls, expected = [net(network(width, tables, links))], []

        def expect(call, answer):
            calls.append(call)
            expected.append(answer)

        def expect_set(call, headers):
            expect(call, model_set(sorted(set(headers)), width))

        def headers_where(switch, holds):
            return [header for header in range(size) if any(holds(packet) for packet in ways[(switch, header)][1])]

        for kind in range(4):
            of_kind = [packet for packet in sorted(ways) if ways[packet][0][0] == kind]
            expect(least(kind), [1] + list(of_kind[0]) if of_kind else [0])
        for switch in switches:
            mask = source.randrange(size) & source.randrange(size)
            pattern = (mask, mask & source.randrange(size))
            other = source.randrange(len(tables))
            expect_set(arriving(switch, pattern, other), [
                packet[1] for header in range(size) if model_matches(header, pattern, width)
                for packet in ways[(switch, header)][1] if packet[0] == other])
            expect_set(leading(switch, other, pattern), headers_where(
                switch, lambda packet: packet[0] == other and model_matches(packet[1], pattern, width)))
            lengths = [(-len(ways[(switch, header)][1]), header) for header in range(size)
                       if ways[(switch, header)][0] != (3,)]
            expect(longest(switch), [1, -min(lengths)[0], min(lengths)[1]] if lengths else [0])
            link = source.randrange(len(links) + 1)
            if link == len(links):
                expect(overlink(switch, link), [-7])
            else:
                two = [links[link][:2], links[link][2:]]
                expect_set(overlink(switch, link), headers_where(switch, lambda packet: model_port(made, packet) in two))
            rule = source.randrange(len(tables[switch]) + 1)
            listed = [source.randrange(len(tables)) for place in range(source.randint(0, 5))]
            if rule == len(tables[switch]):
                expect(used(switch, rule, listed), [-9])
            else:
                expect_set(used(switch, rule, listed), [
                    packet[1] for start in ways if start[0] in listed for packet in ways[start][1]
                    if packet[0] == switch and model_rule(made, *packet) == rule])
            for ask in range(3):
                start = (switch, source.randrange(size))
                packets = model_loop(made, ways[start][1])
                expect(loop(*start), [len(packets)] + [n for packet in packets[:60] for n in packet])
        self.assertEqual(line(*calls)[1:], expected)

    def check_many(self, make, count):
        for seed in range(count):
            with self.subTest(seed=seed):
                source = random.Random(seed)
                made = make(source)
                self.check(made, source)
                self.check_from_arriving_on(made, source)

    def test_made_up_networks(self):
        self.check_many(made_up, 250)

    def test_winding_networks(self):
        self.check_many(winding, 60)


if __name__ == "__main__":
    unittest.main()
