import unittest

from tests.helper import ask, drop, network, on, overlink, send

ALL = (0, 0)
NONE = [0, 0]
BOTH = [2, 1, 0, 0]


class OverlinkTest(unittest.TestCase):
    def test_link_of_two_ports_of_one_switch(self):
        for port in (0, 1):
            numbers = network(1, [[send((1, 0), port, (1, 1)), send(ALL, 3)]], [[0, 0, 0, 1]])
            self.assertEqual(ask(numbers, overlink(0, 0)), [1, 1, 1, 0])

    def test_either_direction(self):
        # 00 and 01 go from switch 0 to switch 1; what has the low bit there comes back with the high bit put to 1.
        numbers = network(2, [[send((2, 0), 2), drop(ALL)], [send((1, 1), 3, (2, 2))]], [[0, 2, 1, 3]])
        self.assertEqual(on(numbers, overlink(0, 0), overlink(1, 0)), [[2, 1, 2, 0], [2, 1, 1, 1]])

    def test_either_end_may_be_told_first(self):
        for link in ([0, 4, 1, 5], [1, 5, 0, 4]):
            numbers = network(1, [[send((1, 1), 4)], [send((1, 0), 5)]], [link])
            self.assertEqual(on(numbers, overlink(0, 0), overlink(1, 0)), [[1, 1, 1, 1], [1, 1, 1, 0]])

    def test_later_in_the_way(self):
        numbers = network(2, [
            [send((2, 2), 0, (1, 1)), drop(ALL)],
            [send((3, 3), 1), send((3, 0), 1)],
            [],
        ], [[1, 1, 2, 0], [0, 0, 1, 0], [2, 5, 0, 5]])
        found = on(numbers, *[overlink(switch, link) for switch in range(3) for link in range(3)])
        self.assertEqual(found, [
            [2, 1, 2, 2], [2, 1, 2, 2], NONE,
            [2, 2, 3, 0, 3, 3], NONE, NONE,
            NONE, NONE, NONE,
        ])

    def test_a_packet_that_ends_is_not_sent_on_by_a_link(self):
        numbers = network(1, [[send((1, 0), 0), drop(ALL)], [send(ALL, 1)], [drop(ALL)]], [[0, 0, 1, 0], [2, 0, 2, 1]])
        found = on(numbers, overlink(0, 0), overlink(1, 0), overlink(2, 0), overlink(2, 1), overlink(1, 1))
        self.assertEqual(found, [[1, 1, 1, 0], NONE, NONE, NONE, NONE])

    def test_a_port_of_the_same_number_at_another_switch(self):
        numbers = network(1, [[send(ALL, 1)], [send(ALL, 0)], [send(ALL, 3)]], [[0, 0, 1, 1], [0, 1, 2, 0]])
        found = on(numbers, overlink(0, 0), overlink(0, 1), overlink(1, 0), overlink(1, 1), overlink(2, 0))
        self.assertEqual(found, [NONE, BOTH, NONE, NONE, NONE])

    def test_only_the_step_back_into_the_way_goes_over_it(self):
        # 0 goes from switch 0 to switch 1 over link 0, and from there back to itself over link 1.
        numbers = network(1, [[send((1, 0), 0)], [send(ALL, 1)]], [[0, 0, 1, 0], [1, 1, 0, 1]])
        found = on(numbers, overlink(0, 0), overlink(0, 1), overlink(1, 0), overlink(1, 1))
        self.assertEqual(found, [[1, 1, 1, 0], [1, 1, 1, 0], [1, 1, 1, 0], BOTH])

    def test_the_step_back_into_the_midst_of_the_way(self):
        # Over link 0 to switch 1, over link 1 to switch 2, over link 2 back to switch 1.
        numbers = network(1, [[send((1, 1), 0)], [send(ALL, 1)], [send(ALL, 2)]],
                          [[0, 0, 1, 0], [1, 1, 2, 1], [2, 2, 1, 2]])
        found = on(numbers, *[overlink(switch, link) for switch in range(3) for link in range(3)])
        self.assertEqual(found, [[1, 1, 1, 1]] * 3 + [NONE, BOTH, BOTH] * 2)

    def test_a_packet_that_comes_to_itself_at_once(self):
        numbers = network(1, [[send((1, 1), 0), drop(ALL)]], [[0, 0, 0, 1]])
        self.assertEqual(ask(numbers, overlink(0, 0)), [1, 1, 1, 1])

    def test_a_rule_that_never_counts(self):
        numbers = network(1, [[drop(ALL), send(ALL, 0)], []], [[0, 0, 1, 0]])
        self.assertEqual(ask(numbers, overlink(0, 0)), NONE)

    def test_last_of_ten_links(self):
        links = [[switch, 2 * pair, switch, 2 * pair + 1] for switch in range(4) for pair in range(3)][:10]
        numbers = network(1, [[], [], [], [send((1, 0), 1, (1, 1))]], links)
        self.assertEqual(on(numbers, overlink(3, 9), overlink(3, 8)), [[1, 1, 1, 0], NONE])


if __name__ == "__main__":
    unittest.main()
