import unittest

from packetends.networks import answers
from tests.helper import EXAMPLE, drop, ends, line, net, network, on, send, tokind, told, way

OTHER = network(1, [[send((0, 0), 3)]])


class LineTest(unittest.TestCase):
    def test_lengths_stand_before_the_answers(self):
        calls = told() + net(EXAMPLE) + way(0, 3) + ends(7) + way(1, 9) + told()
        self.assertEqual(
            answers(calls),
            [1, -8, 3, 2, 2, 3, 8, 1, 1, 0, 2, 0, 3, 1, 3, 1, -2, 1, -3, 31, 30] + EXAMPLE)

    def test_several_nets(self):
        found = line(net(EXAMPLE), ends(0), net(OTHER), ends(0), told(), way(1, 0), net([]), told(), net(EXAMPLE), ends(0))
        self.assertEqual(found, [
            [2, 2, 3], [3, 0, 0, 1, 2, 1, 1, 0, 1, 2, 1, 1],
            [1, 1, 2], [1, 0, 0, 3, 2], [len(OTHER)] + OTHER, [-2],
            [-1], [len(OTHER)] + OTHER,
            [2, 2, 3], [3, 0, 0, 1, 2, 1, 1, 0, 1, 2, 1, 1],
        ])

    def test_sixty_calls(self):
        calls = [net(EXAMPLE)] + [way(0, 2)] * 58 + [told()]
        found = line(*calls)
        self.assertEqual(found, [[2, 2, 3]] + [[2, 1, 2, 0, 2, 1, 2]] * 58 + [[30] + EXAMPLE])

    def test_sixty_nets_of_the_longest_ways(self):
        rules = [send((127 >> bit, 63 >> bit), 0, (127 >> bit, 64 >> bit)) for bit in range(7)]
        numbers = network(7, [rules + [drop((0, 0))]], [[0, 0, 0, 1]])
        self.assertEqual(line(*[net(numbers)] * 60), [[1, 7, 0]] * 60)

    def test_list_of_five_hundred_numbers(self):
        self.assertEqual(line(net([0] * 500), net(EXAMPLE + [0] * 470), net(EXAMPLE)), [[-1], [-1], [2, 2, 3]])

    def test_what_is_handed_in_is_not_changed(self):
        calls = net(EXAMPLE) + told() + way(0, 3) + net([5]) + ends(0) + tokind(0, 0) + net(OTHER) + told()
        before = list(calls)
        first = answers(calls)
        self.assertEqual(calls, before)
        first.clear()
        self.assertEqual(calls, before)

    def test_nothing_is_kept(self):
        calls = net(EXAMPLE) + told() + way(0, 3) + ends(0) + way(9, 0) + net(OTHER) + told()
        first = answers(calls)
        self.assertEqual(answers(told()), [1, -8])
        self.assertEqual(answers(calls), first)
        kept = list(first)
        first.clear()
        self.assertEqual(answers(calls), kept)

    def test_a_told_network_tells_itself(self):
        again = on(EXAMPLE, told())[0][1:]
        self.assertEqual(line(net(again), told()), [[2, 2, 3], [30] + EXAMPLE])

    def test_answers_are_whole_numbers(self):
        calls = net(EXAMPLE) + told() + way(0, 3) + ends(0) + [4, 0, 0, 1] + tokind(0, 2) + [6, 0, 1] + [7, 0, 0, 1]
        given = answers(calls)
        self.assertIs(type(given), list)
        self.assertEqual({type(number) for number in given}, {int})


if __name__ == "__main__":
    unittest.main()
