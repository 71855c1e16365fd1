"""The answers on many made-up networks, beside those of a model that reads the document's words one by one."""

import random
import unittest

from tests.helper import ends, line, net, network, outat, passing, toexit, tokind, told, way


def bit_text(header, width):
    return bin(header)[2:].zfill(width)


def model_step(made, switch, header):
    width, tables, links = made
    text = bit_text(header, width)
    for number, rule in enumerate(tables[switch]):
        told_text, bits_text = bit_text(rule[0], width), bit_text(rule[1], width)
        if all(t == "0" or h == b for h, t, b in zip(text, told_text, bits_text)):
            break
    else:
        return "end", (2, switch)
    if rule[2] == 0:
        return "end", (1, switch, number)
    told_text, bits_text = bit_text(rule[3], width), bit_text(rule[4], width)
    out = int("".join(h if t == "0" else b for h, t, b in zip(text, told_text, bits_text)), 2)
    for a, b, c, d in links:
        if (a, b) == (switch, rule[5]):
            return "on", (c, out)
        if (c, d) == (switch, rule[5]):
            return "on", (a, out)
    return "end", (0, switch, rule[5], out)


def model_way(made, switch, header):
    packets = [(switch, header)]
    while True:
        word, what = model_step(made, *packets[-1])
        if word == "end":
            return what, packets
        if what in packets:
            return (3,), packets
        packets.append(what)


def model_form(texts, width):
    """The one form of a set of headers, each written as its bits; a pattern has a * where it tells nothing."""
    if width == 0:
        return [""] if texts else []
    zeros = sorted(text[1:] for text in texts if text[0] == "0")
    ones = sorted(text[1:] for text in texts if text[0] == "1")
    if zeros == ones:
        return ["*" + rest for rest in model_form(zeros, width - 1)]
    return ["0" + rest for rest in model_form(zeros, width - 1)] + ["1" + rest for rest in model_form(ones, width - 1)]


def model_set(headers, width):
    patterns = model_form([bit_text(header, width) for header in headers], width)
    answer = [len(headers), len(patterns)]
    for pattern in patterns:
        answer.append(int("".join("0" if sign == "*" else "1" for sign in pattern), 2))
        answer.append(int(pattern.replace("*", "0"), 2))
    return answer


def made_up(source):
    width = source.randint(1, 7)
    switches = source.randint(1, 5)

    def pair(few):
        mask = 0
        for bit in range(width):
            if source.random() < few:
                mask += 2 ** bit
        return [mask, mask & source.randrange(2 ** width)]

    few = source.choice([0.1, 0.3, 0.5])
    tables = []
    for switch in range(switches):
        table = []
        for number in range(source.randint(0, 8)):
            rule = pair(few) + ([0] if source.random() < 0.15 else [1] + pair(few) + [source.randrange(6)])
            table.append(rule)
        tables.append(table)
    ports = [(switch, port) for switch in range(switches) for port in range(6)]
    source.shuffle(ports)
    count = source.randint(0, min(10, len(ports) // 2))
    links = [list(ports[2 * link] + ports[2 * link + 1]) for link in range(count)]
    return width, tables, links


class ModelTest(unittest.TestCase):
    def check(self, made, source):
        width, tables, links = made
        size = 2 ** width
        numbers = network(width, tables, links)
        ways = {(switch, header): model_way(made, switch, header)
                for switch in range(len(tables)) for header in range(size)}
        calls = [net(numbers), told()]
        expected = [
            [len(tables), width, len([1 for end, packets in ways.values() if end[0] == 0])],
            [len(numbers)] + numbers,
        ]
        linked = [tuple(link[:2]) for link in links] + [tuple(link[2:]) for link in links]

        def expect(call, answer):
            calls.append(call)
            expected.append(answer)

        def headers_where(switch, holds):
            return [header for header in range(size) if holds(*ways[(switch, header)])]

        for ask in range(4):
            switch, header = source.randrange(len(tables)), source.randrange(size)
            end, packets = ways[(switch, header)]
            expect(way(switch, header), list(end) + [len(packets)] + [n for packet in packets[:60] for n in packet])
        for switch in range(len(tables)):
            found = [ways[(switch, header)][0] for header in range(size)]
            short = [end[:3] for end in found]
            expect(ends(switch), [len(set(short))] + [
                n for end in sorted(set(short)) for n in list(end) + [short.count(end)]])
            kind = source.randrange(4)
            expect(tokind(switch, kind), model_set(headers_where(switch, lambda end, way: end[0] == kind), width))
            other = source.randrange(len(tables))
            passes = headers_where(switch, lambda end, way: any(packet[0] == other for packet in way))
            expect(passing(switch, other), model_set(passes, width))
            exits = [end[1:3] for end in found if end[0] == 0] + [(source.randrange(len(tables)), source.randrange(6))]
            place = source.choice(exits)
            those = headers_where(switch, lambda end, way: end[0] == 0 and end[1:3] == place)
            outs = sorted({found[header][3] for header in those})
            expect(toexit(switch, *place), [-4] if place in linked else model_set(those, width))
            expect(outat(switch, *place), [-4] if place in linked else model_set(outs, width))
        self.assertEqual(line(*calls), expected)

    def test_made_up_networks(self):
        for seed in range(250):
            with self.subTest(seed=seed):
                source = random.Random(seed)
                self.check(made_up(source), source)


if __name__ == "__main__":
    unittest.main()
