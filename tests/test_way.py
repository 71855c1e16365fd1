import unittest

from tests.helper import ask, counter, drop, ends, line, net, network, on, outat, passing, send, toexit, tokind, way

ALL = (0, 0)


class KindsTest(unittest.TestCase):
    # Switch 0 sends all by port 0 to switch 1, which knows all four kinds.
    NUMBERS = network(2, [
        [send(ALL, 0)],
        [send((3, 0), 4, (1, 1)), drop((3, 1)), send((3, 2), 1)],
    ], [[0, 0, 1, 0], [1, 1, 0, 5]])

    def test_each_kind_at_once(self):
        found = on(self.NUMBERS, way(1, 0), way(1, 1), way(1, 3))
        self.assertEqual(found, [[0, 1, 4, 1, 1, 1, 0], [1, 1, 1, 1, 1, 1], [2, 1, 1, 1, 3]])

    def test_each_kind_later(self):
        found = on(self.NUMBERS, way(0, 0), way(0, 1), way(0, 3), way(0, 2))
        self.assertEqual(found, [
            [0, 1, 4, 1, 2, 0, 0, 1, 0],
            [1, 1, 1, 2, 0, 1, 1, 1],
            [2, 1, 2, 0, 3, 1, 3],
            [3, 2, 0, 2, 1, 2],
        ])

    def test_first_rule_counts(self):
        numbers = network(2, [[drop((2, 2)), send((1, 1), 3), drop((1, 1)), send(ALL, 4)]])
        found = on(numbers, way(0, 0), way(0, 1), way(0, 2), way(0, 3))
        self.assertEqual(found, [[0, 0, 4, 0, 1, 0, 0], [0, 0, 3, 1, 1, 0, 1], [1, 0, 0, 1, 0, 2], [1, 0, 0, 1, 0, 3]])

    def test_links_are_gone_both_ways(self):
        numbers = network(1, [[send((1, 0), 2)], [send((1, 1), 3)]], [[0, 2, 1, 3]])
        found = on(numbers, way(0, 0), way(1, 1))
        self.assertEqual(found, [[2, 1, 2, 0, 0, 1, 0], [2, 0, 2, 1, 1, 0, 1]])


class RewriteTest(unittest.TestCase):
    def test_no_bit(self):
        for header in range(8):
            self.assertEqual(ask(network(3, [[send(ALL, 2)]]), way(0, header)), [0, 0, 2, header, 1, 0, header])

    def test_some_bits(self):
        numbers = network(3, [[send(ALL, 2, (5, 4))]])
        for header in range(8):
            out = 4 + (header & 2)
            self.assertEqual(ask(numbers, way(0, header)), [0, 0, 2, out, 1, 0, header])

    def test_all_bits(self):
        for header in range(8):
            self.assertEqual(ask(network(3, [[send(ALL, 0, (7, 5))]]), way(0, header)), [0, 0, 0, 5, 1, 0, header])

    def test_rewritten_header_is_looked_up_at_the_next_switch(self):
        numbers = network(1, [[send((1, 0), 0, (1, 1))], [drop((1, 0)), send((1, 1), 1, (1, 0))]], [[0, 0, 1, 0]])
        self.assertEqual(ask(numbers, way(0, 0)), [0, 1, 1, 0, 2, 0, 0, 1, 1])


class RoundTest(unittest.TestCase):
    def test_at_once(self):
        numbers = network(1, [[send(ALL, 0)]], [[0, 0, 0, 1]])
        self.assertEqual(on(numbers, way(0, 0), way(0, 1)), [[3, 1, 0, 0], [3, 1, 0, 1]])

    def test_later(self):
        # 0 becomes 1, 1 becomes 2, 2 becomes 3, 3 becomes 2 again.
        rules = [send((3, 0), 0, (3, 1)), send((3, 1), 0, (3, 2)), send((3, 2), 0, (3, 3)), send((3, 3), 0, (3, 2))]
        numbers = network(2, [rules], [[0, 0, 0, 1]])
        found = on(numbers, way(0, 0), way(0, 1), way(0, 2), way(0, 3), ends(0), tokind(0, 3))
        self.assertEqual(found, [
            [3, 4, 0, 0, 0, 1, 0, 2, 0, 3],
            [3, 3, 0, 1, 0, 2, 0, 3],
            [3, 2, 0, 2, 0, 3],
            [3, 2, 0, 3, 0, 2],
            [1, 3, 4],
            [4, 1, 0, 0],
        ])

    def test_same_switch_again_is_not_round(self):
        numbers = network(1, [[send((1, 0), 0), drop((1, 1))], [send(ALL, 0, (1, 1))]], [[0, 0, 1, 0]])
        self.assertEqual(ask(numbers, way(0, 0)), [1, 0, 1, 3, 0, 0, 1, 0, 0, 1])

    def test_same_header_again_is_not_round(self):
        numbers = network(1, [[send(ALL, 0)], [send(ALL, 1)], [drop(ALL)]], [[0, 0, 1, 0], [1, 1, 2, 0]])
        self.assertEqual(ask(numbers, way(0, 1)), [1, 2, 0, 3, 0, 1, 1, 1, 2, 1])


class LongWayTest(unittest.TestCase):
    def test_first_sixty_are_told(self):
        numbers = network(7, [counter(7, drop(ALL))], [[0, 0, 0, 1]])
        for first in (0, 66, 67, 68, 69, 127):
            headers = list(range(first, 128))
            packets = []
            for header in headers[:60]:
                packets += [0, header]
            with self.subTest(first=first):
                self.assertEqual(ask(numbers, way(0, first)), [1, 0, 7, len(headers)] + packets)

    def test_round_of_more_than_sixty(self):
        numbers = network(7, [counter(7, send(ALL, 0, (127, 0)))], [[0, 0, 0, 1]])
        found = ask(numbers, way(0, 100))
        self.assertEqual(found[:2], [3, 128])
        self.assertEqual(found[2:], [number for step in range(60) for number in (0, (100 + step) % 128)])

    def test_every_packet_of_the_largest_network(self):
        tables = [counter(7, send(ALL, 2, (127, 0))) for switch in range(5)]
        links = [[switch, 0, switch, 1] for switch in range(5)]
        links += [[switch, 2, switch + 1, 3] for switch in range(4)]
        numbers = network(7, tables, links)
        found = line(net(numbers), way(0, 0), way(0, 1), way(4, 0), passing(0, 4), passing(4, 0), ends(0),
                     toexit(0, 4, 2), outat(0, 4, 2), tokind(0, 3))
        self.assertEqual(found[0], [5, 7, 640])
        self.assertEqual(found[1][:5], [0, 4, 2, 0, 640])
        self.assertEqual(found[1][5:], [number for step in range(60) for number in (0, step)])
        self.assertEqual(found[2][:5], [0, 4, 2, 0, 639])
        self.assertEqual(found[3][:5], [0, 4, 2, 0, 128])
        self.assertEqual(found[4:], [[128, 1, 0, 0], [0, 0], [1, 0, 4, 2, 128], [128, 1, 0, 0], [1, 1, 127, 0], [0, 0]])


if __name__ == "__main__":
    unittest.main()
