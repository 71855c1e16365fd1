import unittest

from tests.helper import arriving, ask, drop, leading, network, send

ALL = (0, 0)
NONE = [0, 0]
EVERY = [4, 1, 0, 0]

# 10 and 11 of switch 0 come to switch 1 as 10, go from there to switch 2 as 11, and come back to switch 0 as 00.
CHANGING = network(2, [
    [send((2, 2), 0, (1, 0)), send((3, 0), 1), drop((3, 1))],
    [send((1, 1), 1, (2, 0)), send((1, 0), 1, (3, 3))],
    [send((3, 3), 0, (3, 0)), drop(ALL)],
], [[0, 0, 1, 0], [1, 1, 2, 1], [2, 0, 0, 5]])

# Round go 01 and 10 at switch 0 and 01 at switch 1; 00 and switch 1's 10 come into that round later; 11 is a hole's.
ROUND = network(2, [
    [send((3, 0), 0, (3, 1)), send((3, 1), 1, (3, 2)), send((3, 2), 0, (3, 1))],
    [send(ALL, 0)],
], [[0, 0, 1, 0], [0, 1, 0, 2]])


class ArrivingTest(unittest.TestCase):
    def arrive(self, numbers, switch, pattern, other, answer):
        with self.subTest(switch=switch, pattern=pattern, other=other):
            self.assertEqual(ask(numbers, arriving(switch, pattern, other)), answer)

    def test_headers_are_those_that_they_have_there(self):
        self.arrive(CHANGING, 0, ALL, 1, [1, 1, 3, 2])
        self.arrive(CHANGING, 0, ALL, 2, [1, 1, 3, 3])
        self.arrive(CHANGING, 1, ALL, 2, [2, 1, 1, 1])
        self.arrive(CHANGING, 1, ALL, 0, [1, 1, 3, 0])
        self.arrive(CHANGING, 2, ALL, 0, [1, 1, 3, 0])

    def test_only_from_headers_that_match(self):
        self.arrive(CHANGING, 0, (2, 0), 1, NONE)
        self.arrive(CHANGING, 0, (3, 3), 1, [1, 1, 3, 2])
        self.arrive(CHANGING, 1, (1, 1), 2, [1, 1, 3, 1])
        self.arrive(CHANGING, 1, (1, 0), 2, [1, 1, 3, 3])
        self.arrive(CHANGING, 1, (3, 2), 2, [1, 1, 3, 3])
        self.arrive(CHANGING, 1, (1, 1), 0, NONE)
        self.arrive(CHANGING, 1, (1, 0), 0, [1, 1, 3, 0])

    def test_the_same_switch(self):
        self.arrive(CHANGING, 0, ALL, 0, EVERY)
        self.arrive(CHANGING, 0, (2, 2), 0, [3, 2, 3, 0, 2, 2])
        self.arrive(CHANGING, 0, (3, 3), 0, [2, 2, 3, 0, 3, 3])
        self.arrive(CHANGING, 0, (3, 1), 0, [1, 1, 3, 1])
        self.arrive(CHANGING, 1, (2, 2), 1, [2, 1, 2, 2])

    def test_nothing_arrives(self):
        self.arrive(CHANGING, 2, ALL, 1, NONE)
        self.arrive(CHANGING, 1, (3, 3), 0, NONE)
        self.arrive(network(2, [[send(ALL, 0)], [send(ALL, 0)]]), 0, ALL, 1, NONE)

    def test_ways_that_go_round(self):
        self.arrive(ROUND, 0, ALL, 1, [1, 1, 3, 1])
        self.arrive(ROUND, 0, (3, 0), 0, [3, 2, 2, 0, 3, 2])
        self.arrive(ROUND, 0, (3, 1), 0, [2, 2, 3, 1, 3, 2])
        self.arrive(ROUND, 0, (3, 2), 0, [2, 2, 3, 1, 3, 2])
        self.arrive(ROUND, 0, (3, 3), 0, [1, 1, 3, 3])
        self.arrive(ROUND, 1, (3, 0), 1, [2, 1, 2, 0])
        self.arrive(ROUND, 1, (3, 2), 1, [2, 2, 3, 1, 3, 2])
        self.arrive(ROUND, 1, (1, 1), 0, [3, 2, 3, 1, 2, 2])
        self.arrive(ROUND, 1, ALL, 0, EVERY)


class LeadingTest(unittest.TestCase):
    def lead(self, numbers, switch, other, pattern, answer):
        with self.subTest(switch=switch, other=other, pattern=pattern):
            self.assertEqual(ask(numbers, leading(switch, other, pattern)), answer)

    def test_the_header_there_has_to_match(self):
        self.lead(CHANGING, 0, 1, (3, 2), [2, 1, 2, 2])
        self.lead(CHANGING, 0, 1, (3, 3), NONE)
        self.lead(CHANGING, 0, 1, (1, 0), [2, 1, 2, 2])
        self.lead(CHANGING, 0, 1, (1, 1), NONE)
        self.lead(CHANGING, 0, 2, (1, 1), [2, 1, 2, 2])
        self.lead(CHANGING, 1, 2, (2, 2), [2, 1, 1, 0])
        self.lead(CHANGING, 1, 2, (2, 0), [2, 1, 1, 1])
        self.lead(CHANGING, 1, 0, (2, 0), [2, 1, 1, 0])
        self.lead(CHANGING, 1, 0, (1, 1), NONE)

    def test_pattern_that_tells_nothing(self):
        self.lead(CHANGING, 0, 0, ALL, EVERY)
        self.lead(CHANGING, 0, 1, ALL, [2, 1, 2, 2])
        self.lead(CHANGING, 1, 2, ALL, EVERY)
        self.lead(CHANGING, 1, 0, ALL, [2, 1, 1, 0])
        self.lead(CHANGING, 2, 0, ALL, [1, 1, 3, 3])
        self.lead(CHANGING, 2, 1, ALL, NONE)

    def test_pattern_that_tells_all_bits(self):
        for header, answer in enumerate([[3, 2, 3, 0, 2, 2], [1, 1, 3, 1], [1, 1, 3, 2], [1, 1, 3, 3]]):
            self.lead(CHANGING, 0, 0, (3, header), answer)
        for header, answer in enumerate([NONE, [2, 1, 1, 1], NONE, [2, 1, 1, 0]]):
            self.lead(CHANGING, 1, 2, (3, header), answer)

    def test_the_same_switch(self):
        self.lead(CHANGING, 0, 0, (2, 2), [2, 1, 2, 2])
        self.lead(CHANGING, 0, 0, (2, 0), EVERY)
        self.lead(CHANGING, 0, 0, (1, 1), [2, 1, 1, 1])
        self.lead(CHANGING, 1, 1, (1, 1), [2, 1, 1, 1])

    def test_ways_that_go_round(self):
        self.lead(ROUND, 0, 1, (3, 1), [3, 2, 2, 0, 3, 2])
        self.lead(ROUND, 0, 1, (3, 2), NONE)
        self.lead(ROUND, 0, 0, (3, 0), [1, 1, 3, 0])
        self.lead(ROUND, 0, 0, (3, 1), [3, 2, 2, 0, 3, 2])
        self.lead(ROUND, 0, 0, (3, 2), [3, 2, 2, 0, 3, 2])
        self.lead(ROUND, 0, 0, (3, 3), [1, 1, 3, 3])
        self.lead(ROUND, 1, 1, (3, 1), [3, 2, 2, 0, 3, 2])
        self.lead(ROUND, 1, 1, (3, 2), [1, 1, 3, 2])
        self.lead(ROUND, 1, 0, (3, 3), [1, 1, 3, 3])
        self.lead(ROUND, 1, 0, (3, 0), [1, 1, 3, 0])


if __name__ == "__main__":
    unittest.main()
