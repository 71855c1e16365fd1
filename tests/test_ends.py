import unittest

from tests.helper import ask, drop, ends, network, outat, send, toexit

ALL = (0, 0)


class EndsTest(unittest.TestCase):
    # The rules stand so that no kind, switch, port or rule comes in the asked order by itself.
    EVERY_KIND = network(4, [
        [send((8, 8), 0), send((12, 4), 1), send((15, 3), 5), send((15, 2), 4), drop((15, 1))],
        [send((15, 15), 3), send((15, 14), 3, (15, 0)), send((15, 13), 1), drop((15, 12)), drop((15, 11)),
         send((15, 10), 4), send((15, 9), 5)],
        [send((15, 4), 2), drop((15, 5)), send((15, 6), 3)],
    ], [[0, 0, 1, 0], [0, 1, 2, 0], [1, 4, 1, 5]])

    def test_order(self):
        self.assertEqual(ask(self.EVERY_KIND, ends(0)), [
            14,
            0, 0, 4, 1,
            0, 0, 5, 1,
            0, 1, 1, 1,
            0, 1, 3, 2,
            0, 2, 2, 1,
            0, 2, 3, 1,
            1, 0, 4, 1,
            1, 1, 3, 1,
            1, 1, 4, 1,
            1, 2, 1, 1,
            2, 0, 1,
            2, 1, 1,
            2, 2, 1,
            3, 2,
        ])

    def test_of_another_switch(self):
        self.assertEqual(ask(self.EVERY_KIND, ends(2)), [4, 0, 2, 2, 1, 0, 2, 3, 1, 1, 2, 1, 1, 2, 2, 13])

    def test_headers_of_one_exit_are_one_end(self):
        numbers = network(2, [[send((1, 1), 3), send((3, 0), 3, (3, 2))]])
        self.assertEqual(ask(numbers, ends(0)), [2, 0, 0, 3, 3, 2, 0, 1])
        self.assertEqual(ask(numbers, toexit(0, 0, 3)), [3, 2, 2, 0, 3, 3])
        self.assertEqual(ask(numbers, outat(0, 0, 3)), [3, 2, 3, 1, 2, 2])

    def test_one_end_for_all(self):
        self.assertEqual(ask(network(7, [[]]), ends(0)), [1, 2, 0, 128])
        self.assertEqual(ask(network(7, [[drop(ALL)]]), ends(0)), [1, 1, 0, 0, 128])
        self.assertEqual(ask(network(7, [[send(ALL, 5)]]), ends(0)), [1, 0, 0, 5, 128])
        self.assertEqual(ask(network(7, [[send(ALL, 5)]], [[0, 5, 0, 4]]), ends(0)), [1, 3, 128])

    def test_rules_that_drop_alike_are_two_ends(self):
        self.assertEqual(ask(network(1, [[drop((1, 1)), drop(ALL)]]), ends(0)), [2, 1, 0, 0, 1, 1, 0, 1, 1])

    def test_every_exit_of_the_largest_network(self):
        # Switch 0 has but six ports, so it leads on to the others by four of its own.
        tables = [[send((7, 0), 0), send((7, 1), 1), send((7, 2), 2), send((7, 3), 3), send((7, 4), 5), drop((7, 5))]]
        tables += [[send((120, 8 * port), port) for port in range(1, 6)] for switch in range(4)]
        links = [[0, switch - 1, switch, 0] for switch in range(1, 5)]
        expected = [0, 0, 5, 16]
        for switch in range(1, 5):
            for port in range(1, 6):
                expected += [0, switch, port, 1]
        expected += [1, 0, 5, 16, 2, 0, 32]
        for switch in range(1, 5):
            expected += [2, switch, 11]
        self.assertEqual(ask(network(7, tables, links), ends(0)), [27] + expected)


if __name__ == "__main__":
    unittest.main()
