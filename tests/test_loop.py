import unittest

from tests.helper import ask, counter, drop, loop, network, on, send, way

ALL = (0, 0)


class LoopTest(unittest.TestCase):
    # Round go 01 and 10 at switch 0 and 01 at switch 1; switch 0's 00 and switch 1's 00 and 10 come into it later.
    NUMBERS = network(2, [
        [send((3, 0), 0, (3, 1)), send((3, 1), 1, (3, 2)), send((3, 2), 0, (3, 1))],
        [send(ALL, 0)],
    ], [[0, 0, 1, 0], [0, 1, 0, 2]])

    def test_from_its_first_packet_on(self):
        found = on(self.NUMBERS, loop(0, 1), loop(0, 2), loop(1, 1))
        self.assertEqual(found, [[3, 0, 1, 0, 2, 1, 1], [3, 0, 2, 1, 1, 0, 1], [3, 1, 1, 0, 1, 0, 2]])

    def test_comes_into_the_round_later(self):
        found = on(self.NUMBERS, loop(0, 0), loop(1, 0), loop(1, 2))
        self.assertEqual(found, [[3, 1, 1, 0, 1, 0, 2], [3, 1, 1, 0, 1, 0, 2], [3, 0, 2, 1, 1, 0, 1]])
        self.assertEqual(on(self.NUMBERS, way(1, 0))[0], [3, 5, 1, 0, 0, 0, 1, 1, 0, 1, 0, 2])

    def test_does_not_go_round(self):
        self.assertEqual(on(self.NUMBERS, loop(0, 3), loop(1, 3)), [[0], [0]])
        numbers = network(2, [[send((3, 0), 0), drop((3, 1)), send((3, 2), 1)], [send(ALL, 1)]], [[0, 0, 1, 0]])
        found = on(numbers, *[loop(switch, header) for switch in range(2) for header in range(4)])
        self.assertEqual(found, [[0]] * 8)

    def test_one_packet(self):
        numbers = network(2, [[send((1, 1), 0), send(ALL, 0, (1, 1))]], [[0, 0, 0, 1]])
        found = on(numbers, *[loop(0, header) for header in range(4)])
        self.assertEqual(found, [[1, 0, 1], [1, 0, 1], [1, 0, 3], [1, 0, 3]])

    def test_same_switch_again_is_not_round(self):
        numbers = network(1, [[send((1, 0), 0), drop((1, 1))], [send(ALL, 0, (1, 1))]], [[0, 0, 1, 0]])
        self.assertEqual(on(numbers, loop(0, 0), loop(1, 0)), [[0], [0]])


class LongLoopTest(unittest.TestCase):
    def test_first_sixty_are_told(self):
        numbers = network(7, [counter(7, send(ALL, 0, (127, 0)))], [[0, 0, 0, 1]])
        for first in (0, 67, 100, 127):
            shown = [number for step in range(60) for number in (0, (first + step) % 128)]
            with self.subTest(first=first):
                self.assertEqual(ask(numbers, loop(0, first)), [128] + shown)
                self.assertEqual(ask(numbers, way(0, first)), [3, 128] + shown)

    def test_around_sixty(self):
        # The last rule sends 127 back to the header at which a round of so many packets begins.
        for count in (59, 60, 61, 62):
            begin = 128 - count
            numbers = network(7, [counter(7, send(ALL, 0, (127, begin)))], [[0, 0, 0, 1]])
            shown = [number for header in list(range(begin, 128))[:60] for number in (0, header)]
            with self.subTest(count=count):
                self.assertEqual(ask(numbers, loop(0, begin)), [count] + shown)
                self.assertEqual(ask(numbers, loop(0, 0)), [count] + shown)
                self.assertEqual(ask(numbers, way(0, begin)), [3, count] + shown)

    def test_comes_into_the_round_behind_the_sixtieth_packet(self):
        numbers = network(7, [counter(7, send(ALL, 0, (127, 125)))], [[0, 0, 0, 1]])
        self.assertEqual(ask(numbers, loop(0, 0)), [3, 0, 125, 0, 126, 0, 127])
        self.assertEqual(ask(numbers, way(0, 0))[:2], [3, 128])

    def test_round_through_the_largest_network(self):
        tables = [counter(7, send(ALL, 2, (127, 0))) for switch in range(5)]
        links = [[switch, 0, switch, 1] for switch in range(5)]
        links += [[switch, 2, switch + 1, 3] for switch in range(4)]
        # The last switch leads back to the first one, whose port 3 is still without a link.
        links.append([4, 2, 0, 3])
        numbers = network(7, tables, links)
        found = ask(numbers, loop(3, 100))
        packets = [(3 + (100 + step) // 128, (100 + step) % 128) for step in range(60)]
        self.assertEqual(found, [640] + [number for packet in packets for number in packet])


if __name__ == "__main__":
    unittest.main()
