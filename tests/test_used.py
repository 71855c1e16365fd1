import unittest

from tests.helper import ask, counter, drop, network, on, send, used

ALL = (0, 0)
NONE = [0, 0]

# 10 and 11 of switch 0 come to switch 1 as 11, where they are dropped; all else leaves there by port 5.
NUMBERS = network(2, [
    [send((2, 2), 0, (1, 1)), send((1, 1), 3), drop((2, 2))],
    [drop((3, 3)), send(ALL, 5)],
    [],
], [[0, 0, 1, 0]])


class UsedTest(unittest.TestCase):
    def test_at_the_switch_itself(self):
        found = on(NUMBERS, used(0, 0, [0]), used(0, 1, [0]), used(1, 0, [1]), used(1, 1, [1]))
        self.assertEqual(found, [[2, 1, 2, 2], [1, 1, 3, 1], [1, 1, 3, 3], [3, 2, 2, 0, 3, 2]])

    def test_rule_that_never_counts(self):
        self.assertEqual(ask(NUMBERS, used(0, 2, [0, 1, 2])), NONE)
        numbers = network(1, [[drop(ALL), send(ALL, 0)]])
        self.assertEqual(on(numbers, used(0, 0, [0]), used(0, 1, [0])), [[2, 1, 0, 0], NONE])

    def test_an_earlier_rule_takes_some_headers(self):
        numbers = network(3, [[drop((4, 4)), send((1, 1), 3), drop((1, 1)), send(ALL, 2)]])
        found = on(numbers, *[used(0, rule, [0]) for rule in range(4)])
        self.assertEqual(found, [[4, 1, 4, 4], [2, 1, 5, 1], NONE, [2, 1, 5, 0]])

    def test_from_another_switch_changed(self):
        found = on(NUMBERS, used(1, 0, [0]), used(1, 1, [0]), used(0, 0, [1]), used(0, 1, [1]))
        self.assertEqual(found, [[1, 1, 3, 3], NONE, NONE, NONE])

    def test_no_switches(self):
        found = on(NUMBERS, used(0, 0, []), used(0, 1, []), used(1, 0, []), used(1, 1, []))
        self.assertEqual(found, [NONE] * 4)

    def test_a_switch_from_which_nothing_goes_there(self):
        self.assertEqual(on(NUMBERS, used(0, 0, [2]), used(1, 1, [2])), [NONE, NONE])

    def test_several_switches(self):
        numbers = network(2, [
            [send((3, 1), 0)],
            [send((3, 2), 0, (3, 0))],
            [drop((2, 0)), drop((3, 3))],
        ], [[0, 0, 2, 0], [1, 0, 2, 1]])
        cases = [
            ([0], [1, 1, 3, 1]), ([1], [1, 1, 3, 0]), ([0, 1], [2, 1, 2, 0]), ([1, 0], [2, 1, 2, 0]),
            ([2], [2, 1, 2, 0]), ([0, 0, 0, 0, 0], [1, 1, 3, 1]), ([1, 0, 1, 0, 1], [2, 1, 2, 0]),
            ([2, 1, 0], [2, 1, 2, 0]),
        ]
        for switches, answer in cases:
            with self.subTest(switches=switches):
                self.assertEqual(ask(numbers, used(2, 0, switches)), answer)
        self.assertEqual(on(numbers, used(2, 1, [0, 1]), used(2, 1, [0, 1, 2])), [NONE, [1, 1, 3, 3]])

    def test_the_rule_of_that_number_at_another_switch_does_not_count(self):
        numbers = network(1, [[send((1, 0), 0)], [send((1, 1), 0)]])
        self.assertEqual(on(numbers, used(0, 0, [1]), used(0, 0, [0, 1])), [NONE, [1, 1, 1, 0]])

    def test_ways_that_go_round(self):
        # Of switch 1 just 0 comes into the round, in which it changes to 1 at switch 0 and back.
        numbers = network(1, [
            [send((1, 0), 1, (1, 1)), send(ALL, 1, (1, 0))],
            [send((1, 0), 0)],
        ], [[0, 0, 1, 0], [0, 1, 0, 2]])
        found = on(numbers, used(0, 0, [1]), used(0, 1, [1]), used(1, 0, [1]), used(1, 0, [0]))
        self.assertEqual(found, [[1, 1, 1, 0], [1, 1, 1, 1], [1, 1, 1, 0], NONE])

    def test_five_switches(self):
        # Each switch sends all on to the next one, the last one by an exit.
        numbers = network(7, [[send(ALL, 0)] for switch in range(5)],
                          [[switch, 0, switch + 1, 1] for switch in range(4)])
        found = on(numbers, used(4, 0, [0, 1, 2, 3, 4]), used(4, 0, [0]), used(0, 0, [1, 2, 3, 4]))
        self.assertEqual(found, [[128, 1, 0, 0], [128, 1, 0, 0], NONE])

    def test_last_of_eight_rules(self):
        numbers = network(7, [counter(7, drop(ALL))], [[0, 0, 0, 1]])
        found = on(numbers, used(0, 7, [0]), used(0, 0, [0]), used(0, 6, [0]))
        self.assertEqual(found, [[1, 1, 127, 127], [64, 1, 1, 0], [1, 1, 127, 63]])


if __name__ == "__main__":
    unittest.main()
