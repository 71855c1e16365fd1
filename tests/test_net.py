import unittest

from tests.helper import EXAMPLE, LARGE, drop, line, net, network, send, told, way

ALL = (0, 0)
BESIDE = (-LARGE, -1, LARGE)
TEN_LINKS = [[switch, 2 * pair, switch, 2 * pair + 1] for switch in range(4) for pair in range(3)][:10]
ELEVEN_LINKS = [[switch, 2 * pair, switch, 2 * pair + 1] for switch in range(4) for pair in range(3)][:11]


class RefusedTest(unittest.TestCase):
    def refused(self, numbers):
        with self.subTest(numbers=numbers):
            self.assertEqual(line(net(numbers), told()), [[-1], [-8]])
            found = line(net(EXAMPLE), net(numbers), told(), way(0, 3))
            self.assertEqual(found[1:], [[-1], [len(EXAMPLE)] + EXAMPLE, [1, 1, 0, 2, 0, 3, 1, 3]])

    def test_empty_list(self):
        self.refused([])

    def test_too_short(self):
        for length in range(len(EXAMPLE)):
            self.refused(EXAMPLE[:length])

    def test_too_long(self):
        self.refused(EXAMPLE + [0])
        self.refused(EXAMPLE + EXAMPLE)
        self.refused(EXAMPLE + [0] * (500 - len(EXAMPLE)))

    def test_width(self):
        for width in BESIDE + (0, 8):
            self.refused(network(width, [[]]))

    def test_switches(self):
        self.refused(network(1, []))
        self.refused(network(1, [[]] * 6))
        for switches in BESIDE:
            self.refused([1, switches, 0, 0])

    def test_rules(self):
        self.refused(network(1, [[drop(ALL)] * 9]))
        for rules in BESIDE:
            self.refused([1, 1, rules, 0])

    def test_pattern(self):
        for pattern in [(4, 0), (4, 4), (0, 1), (1, 2), (2, 1), (1, 3), (3, 4), (-1, 0), (0, -1), (-1, -1), (3, -1),
                        (LARGE, 0), (LARGE, LARGE), (0, LARGE), (-LARGE, 0), (0, -LARGE), (-LARGE, -LARGE)]:
            self.refused(network(2, [[drop(pattern)]]))
            self.refused(network(2, [[drop(ALL), send(pattern, 0)]]))

    def test_rewrite(self):
        for rewrite in [(4, 0), (4, 4), (0, 1), (1, 2), (2, 1), (1, 3), (3, 4), (-1, 0), (0, -1), (-1, -1), (3, -1),
                        (LARGE, 0), (LARGE, LARGE), (0, LARGE), (-LARGE, 0), (0, -LARGE), (-LARGE, -LARGE)]:
            self.refused(network(2, [[send(ALL, 0, rewrite)]]))

    def test_pattern_of_widest_headers(self):
        self.refused(network(7, [[drop((128, 0))]]))
        self.refused(network(7, [[send(ALL, 0, (128, 128))]]))

    def test_action(self):
        for action in BESIDE + (2,):
            self.refused(network(2, [[[0, 0, action]]]))
            self.refused(network(2, [[[0, 0, action, 0, 0, 0]]]))

    def test_drop_has_no_rewrite(self):
        self.refused(network(2, [[[0, 0, 0, 0, 0, 0]]]))

    def test_port_of_a_rule(self):
        for port in BESIDE + (6,):
            self.refused(network(2, [[send(ALL, port)]]))

    def test_how_many_links(self):
        self.refused(network(1, [[]] * 4, ELEVEN_LINKS))
        for links in BESIDE:
            self.refused([1, 1, 0, links])
        self.refused([1, 1, 0, 1])

    def test_link_of_a_port_with_itself(self):
        self.refused(network(1, [[], []], [[1, 3, 1, 3]]))

    def test_port_in_two_links(self):
        first = [0, 1, 1, 2]
        for second in ([0, 1, 1, 3], [1, 3, 0, 1], [1, 2, 0, 4], [0, 4, 1, 2], [0, 1, 1, 2], [1, 2, 0, 1]):
            self.refused(network(1, [[], []], [first, second]))
            self.refused(network(1, [[], []], [first, [0, 0, 1, 0], second]))

    def test_port_of_a_link(self):
        for port in BESIDE + (6,):
            self.refused(network(1, [[], []], [[0, port, 1, 0]]))
            self.refused(network(1, [[], []], [[0, 0, 1, port]]))

    def test_switch_of_a_link(self):
        for switch in BESIDE + (2,):
            self.refused(network(1, [[], []], [[switch, 0, 1, 0]]))
            self.refused(network(1, [[], []], [[0, 0, switch, 0]]))

    def test_largest_numbers_at_each_place(self):
        for place in range(len(EXAMPLE)):
            for number in (LARGE, -LARGE, -1):
                self.refused(EXAMPLE[:place] + [number] + EXAMPLE[place + 1:])


class ToldTest(unittest.TestCase):
    def taken(self, numbers, answer):
        with self.subTest(numbers=numbers):
            self.assertEqual(line(net(numbers), told()), [answer, [len(numbers)] + numbers])

    def test_smallest(self):
        self.taken([1, 1, 0, 0], [1, 1, 0])

    def test_widths(self):
        for width in range(1, 8):
            self.taken(network(width, [[send(ALL, 5)]]), [1, width, 2 ** width])
            highest = 2 ** width - 1
            self.taken(network(width, [[send((highest, highest), 5, (highest, highest))]]), [1, width, 1])

    def test_switches(self):
        for switches in range(1, 6):
            self.taken(network(2, [[send(ALL, 0)]] * switches), [switches, 2, 4 * switches])

    def test_no_rule_and_eight_rules(self):
        self.taken(network(3, [[], [drop(ALL)] * 8]), [2, 3, 0])
        self.taken(network(3, [[send((7, header), 0) for header in range(8)]]), [1, 3, 8])

    def test_every_port(self):
        for port in range(6):
            self.taken(network(1, [[send(ALL, port)]]), [1, 1, 2])

    def test_every_pattern_and_rewrite(self):
        for mask in range(8):
            for bits in range(8):
                if bits & mask == bits:
                    count = 2 ** (3 - bin(mask).count("1"))
                    self.taken(network(3, [[send((mask, bits), 0)]]), [1, 3, count])
                    self.taken(network(3, [[send(ALL, 0, (mask, bits))]]), [1, 3, 8])

    def test_ten_links(self):
        self.taken(network(1, [[send(ALL, 0)]] * 4, TEN_LINKS), [4, 1, 0])

    def test_link_within_a_switch(self):
        self.taken(network(1, [[send((1, 0), 0, (1, 1)), send(ALL, 2)]], [[0, 0, 0, 1]]), [1, 1, 2])

    def test_link_at_the_last_ports(self):
        self.taken(network(1, [[send(ALL, 5)], [send(ALL, 0)]], [[0, 5, 1, 5]]), [2, 1, 4])

    def test_largest_network(self):
        table = [send((127, number), 5, (127, 127)) for number in range(8)]
        links = [[switch, 2 * pair, switch, 2 * pair + 1] for switch in range(5) for pair in range(2)]
        numbers = network(7, [table] * 5, links)
        self.assertEqual(len(numbers), 288)
        self.taken(numbers, [5, 7, 40])

    def test_only_packets_at_exits_are_counted(self):
        table = [send((3, 0), 0), drop((3, 1)), send((3, 2), 1)]
        self.taken(network(2, [table], [[0, 1, 0, 2]]), [1, 2, 1])


if __name__ == "__main__":
    unittest.main()
