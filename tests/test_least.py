import unittest

from tests.helper import ask, counter, drop, least, longest, network, on, send

ALL = (0, 0)


class LeastTest(unittest.TestCase):
    def test_each_kind_at_one_switch(self):
        # 00 goes round, 01 ends in a hole, 10 is dropped, 11 comes out.
        numbers = network(2, [[send((3, 0), 0), drop((3, 2)), send((3, 3), 2)]], [[0, 0, 0, 1]])
        found = on(numbers, least(0), least(1), least(2), least(3))
        self.assertEqual(found, [[1, 0, 3], [1, 0, 2], [1, 0, 1], [1, 0, 0]])

    def test_no_packet_ends_so(self):
        cases = [
            (network(3, [[send(ALL, 0)]]), 0),
            (network(3, [[drop(ALL)]]), 1),
            (network(3, [[]]), 2),
            (network(3, [[send(ALL, 0)]], [[0, 0, 0, 1]]), 3),
        ]
        for numbers, only in cases:
            for kind in range(4):
                with self.subTest(only=only, kind=kind):
                    self.assertEqual(ask(numbers, least(kind)), [1, 0, 0] if kind == only else [0])

    def test_a_lower_switch_comes_before_a_lower_header(self):
        numbers = network(2, [[drop((2, 0)), send((3, 2), 1)], [send(ALL, 4)], []])
        self.assertEqual(on(numbers, least(0), least(1), least(2)), [[1, 0, 2], [1, 0, 0], [1, 0, 3]])

    def test_last_packet_of_the_largest_network(self):
        numbers = network(7, [[drop(ALL)]] * 4 + [[drop((64, 0)), send((127, 127), 3), drop(ALL)]])
        self.assertEqual(on(numbers, least(0), least(1), least(2)), [[1, 4, 127], [1, 0, 0], [0]])

    def test_it_is_the_way_that_ends_so(self):
        # Switch 0 sends all to switch 1 with the low bit changed; only what comes as 1 is dropped there.
        numbers = network(1, [[send((1, 0), 0, (1, 1)), send(ALL, 0, (1, 0))], [drop((1, 1))]], [[0, 0, 1, 0]])
        self.assertEqual(on(numbers, least(1), least(2)), [[1, 0, 0], [1, 0, 1]])

    def test_way_that_comes_into_a_round_later(self):
        numbers = network(1, [[send((1, 1), 0)], [send(ALL, 1)]], [[0, 0, 1, 0], [1, 1, 1, 2]])
        self.assertEqual(on(numbers, least(3), least(2), least(0), least(1)), [[1, 0, 1], [1, 0, 0], [0], [0]])


class LongestTest(unittest.TestCase):
    # 00 is dropped at once, 01 at switch 1, 10 and 11 at switch 2.
    NUMBERS = network(2, [
        [drop((3, 0)), send(ALL, 0)],
        [drop((2, 0)), send(ALL, 1)],
        [drop(ALL)],
    ], [[0, 0, 1, 0], [1, 1, 2, 0]])

    def test_most_packets_and_least_header(self):
        self.assertEqual(on(self.NUMBERS, longest(0), longest(1), longest(2)), [[1, 3, 2], [1, 2, 2], [1, 1, 0]])

    def test_all_alike(self):
        for width in range(1, 8):
            self.assertEqual(ask(network(width, [[send(ALL, 0)]]), longest(0)), [1, 1, 0])

    def test_a_lower_header_with_as_many_is_told_in_whatever_order_they_come(self):
        # 11 becomes 10 and 01 becomes 00 before they end.
        down = network(2, [[send((1, 1), 0, (1, 0)), drop(ALL)]], [[0, 0, 0, 1]])
        self.assertEqual(ask(down, longest(0)), [1, 2, 1])
        # 00 becomes 11, 01 becomes 10.
        up = network(2, [[send((3, 0), 0, (3, 3)), send((3, 1), 0, (3, 2))]], [[0, 0, 0, 1]])
        self.assertEqual(ask(up, longest(0)), [1, 2, 0])

    def test_every_kind_but_round(self):
        # From 00 the way has two packets and ends at an exit, in a hole or dropped.
        for last in ([send((3, 3), 5)], [drop((3, 3))], []):
            numbers = network(2, [[send((3, 0), 0, (3, 3))] + last], [[0, 0, 0, 1]])
            self.assertEqual(ask(numbers, longest(0)), [1, 2, 0])

    def test_all_go_round(self):
        numbers = network(2, [[send(ALL, 0)], [send(ALL, 0)], []], [[0, 0, 1, 0]])
        self.assertEqual(on(numbers, longest(0), longest(1), longest(2)), [[0], [0], [1, 1, 0]])

    def test_ways_that_go_round_do_not_count(self):
        # 0 becomes 1, 1 becomes 2, 2 becomes 1 again; 3 leaves at once.
        rules = [send((3, 0), 0, (3, 1)), send((3, 1), 0, (3, 2)), send((3, 2), 0, (3, 1)), send(ALL, 3)]
        self.assertEqual(ask(network(2, [rules], [[0, 0, 0, 1]]), longest(0)), [1, 1, 3])

    def test_more_than_sixty(self):
        numbers = network(7, [counter(7, drop(ALL))], [[0, 0, 0, 1]])
        self.assertEqual(ask(numbers, longest(0)), [1, 128, 0])

    def test_every_packet_of_the_largest_network(self):
        tables = [counter(7, send(ALL, 2, (127, 0))) for switch in range(5)]
        links = [[switch, 0, switch, 1] for switch in range(5)]
        links += [[switch, 2, switch + 1, 3] for switch in range(4)]
        found = on(network(7, tables, links), *[longest(switch) for switch in range(5)])
        self.assertEqual(found, [[1, 640 - 128 * switch, 0] for switch in range(5)])


if __name__ == "__main__":
    unittest.main()
