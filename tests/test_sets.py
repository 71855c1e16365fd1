import unittest

from tests.helper import ask, drop, network, on, outat, passing, send, toexit, tokind

ALL = (0, 0)


def exact(width, headers, port=0):
    """A table that sends just these headers by the port, each by a rule of its own."""
    return [send((2 ** width - 1, header), port) for header in headers]


class OneFormTest(unittest.TestCase):
    def test_every_set_of_one_bit(self):
        for headers, answer in [([], [0, 0]), ([0], [1, 1, 1, 0]), ([1], [1, 1, 1, 1]), ([0, 1], [2, 1, 0, 0])]:
            with self.subTest(headers=headers):
                self.assertEqual(ask(network(1, [exact(1, headers)]), tokind(0, 0)), answer)

    def test_sets_of_two_bits(self):
        for headers, answer in [
            ([0, 1], [2, 1, 2, 0]),
            ([2, 3], [2, 1, 2, 2]),
            ([0, 2], [2, 1, 1, 0]),
            ([1, 3], [2, 1, 1, 1]),
            ([0, 3], [2, 2, 3, 0, 3, 3]),
            ([1, 2], [2, 2, 3, 1, 3, 2]),
            ([0, 1, 2], [3, 2, 2, 0, 3, 2]),
            ([1, 2, 3], [3, 2, 3, 1, 2, 2]),
        ]:
            with self.subTest(headers=headers):
                self.assertEqual(ask(network(2, [exact(2, headers)]), toexit(0, 0, 0)), answer)

    def test_empty_and_all(self):
        for width in range(1, 8):
            with self.subTest(width=width):
                found = on(network(width, [[send(ALL, 3)]]), tokind(0, 0), tokind(0, 1), toexit(0, 0, 3),
                           toexit(0, 0, 2), outat(0, 0, 3), outat(0, 0, 2), passing(0, 0))
                every = [2 ** width, 1, 0, 0]
                self.assertEqual(found, [every, [0, 0], every, [0, 0], every, [0, 0], every])

    def test_widest_headers(self):
        cases = [
            ([send((64, 64), 0)], [64, 1, 64, 64]),
            ([send((64, 0), 0)], [64, 1, 64, 0]),
            ([send((1, 1), 0)], [64, 1, 1, 1]),
            ([send((73, 8), 0)], [16, 1, 73, 8]),
            ([send((127, 127), 0)], [1, 1, 127, 127]),
            ([send((64, 0), 0), send((1, 1), 0)], [96, 2, 64, 0, 65, 65]),
            ([send((32, 32), 0), send((2, 2), 0)], [96, 2, 34, 2, 32, 32]),
        ]
        for table, answer in cases:
            with self.subTest(answer=answer):
                self.assertEqual(ask(network(7, [table]), toexit(0, 0, 0)), answer)

    def test_set_of_most_patterns(self):
        # Each of the first three switches puts the sum of three bits into the highest of them, 0 into the others.
        tables = []
        for low in (1, 4, 16):
            mask = 7 * low
            rules = []
            for bits in range(8):
                odd = bin(bits).count("1") % 2
                rules.append(send((mask, bits * low), 1, (mask, 4 * low * odd)))
            tables.append(rules)
        tables.append([send((64, 64), 5), drop(ALL)])
        numbers = network(7, tables, [[0, 1, 1, 0], [1, 1, 2, 0], [2, 1, 3, 0]])
        expected = [64, 64]
        for header in range(128):
            if bin(header).count("1") % 2 == 1:
                expected += [127, header]
        self.assertEqual(ask(numbers, toexit(0, 3, 5)), expected)
        self.assertEqual(ask(numbers, outat(0, 3, 5)), [1, 1, 127, 64])


class PassingTest(unittest.TestCase):
    # Switch 0 sends 1* to switch 1; that sends *1 to switch 2, which sends all back to switch 1 as 00.
    NUMBERS = network(2, [
        [send((2, 2), 0)],
        [send((1, 1), 1)],
        [send(ALL, 1, (3, 0))],
    ], [[0, 0, 1, 0], [1, 1, 2, 1]])

    def test_passing(self):
        found = on(self.NUMBERS, passing(0, 1), passing(0, 2), passing(1, 2), passing(2, 1), passing(1, 0))
        self.assertEqual(found, [[2, 1, 2, 2], [1, 1, 3, 3], [2, 1, 1, 1], [4, 1, 0, 0], [0, 0]])

    def test_the_packet_itself_is_in_its_way(self):
        for switch in range(3):
            self.assertEqual(ask(self.NUMBERS, passing(switch, switch)), [4, 1, 0, 0])

    def test_ways_that_go_round(self):
        numbers = network(1, [[send((1, 1), 0)], [send(ALL, 0)], []], [[0, 0, 1, 0]])
        found = on(numbers, passing(0, 1), passing(1, 0), passing(0, 2), tokind(0, 3), tokind(1, 3))
        self.assertEqual(found, [[1, 1, 1, 1], [2, 1, 0, 0], [0, 0], [1, 1, 1, 1], [1, 1, 1, 1]])


class OutatTest(unittest.TestCase):
    def test_headers_are_those_that_come_out(self):
        numbers = network(3, [[send((4, 4), 0, (3, 2)), send((1, 1), 1, (6, 6)), drop(ALL)]])
        found = on(numbers, toexit(0, 0, 0), outat(0, 0, 0), toexit(0, 0, 1), outat(0, 0, 1))
        self.assertEqual(found, [[4, 1, 4, 4], [1, 1, 7, 6], [2, 1, 5, 1], [1, 1, 7, 7]])

    def test_only_from_the_switch(self):
        numbers = network(1, [[send((1, 0), 0)], [send(ALL, 1)]], [[0, 0, 1, 0]])
        found = on(numbers, outat(0, 1, 1), outat(1, 1, 1), toexit(0, 1, 1), toexit(1, 1, 1))
        self.assertEqual(found, [[1, 1, 1, 0], [2, 1, 0, 0], [1, 1, 1, 0], [2, 1, 0, 0]])

    def test_only_at_the_port(self):
        numbers = network(2, [[send((2, 0), 0), send((3, 2), 1), send(ALL, 2)]])
        found = on(numbers, *[call(0, 0, port) for call in (toexit, outat) for port in range(4)])
        self.assertEqual(found, [[2, 1, 2, 0], [1, 1, 3, 2], [1, 1, 3, 3], [0, 0]] * 2)


if __name__ == "__main__":
    unittest.main()
