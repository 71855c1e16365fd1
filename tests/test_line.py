import unittest

from packetends.networks import answers
from tests.helper import (EXAMPLE, arriving, drop, ends, leading, least, line, longest, loop, net, network, on, outat,
                          overlink, passing, send, toexit, tokind, told, used, way)

OTHER = network(1, [[send((0, 0), 3)]])
GOING_ROUND = network(1, [[send((1, 1), 0)], [send((0, 0), 1)]], [[0, 0, 1, 0], [1, 1, 0, 1]])

EVERY_CALL = [
    told(), way(0, 1), ends(0), toexit(0, 0, 3), tokind(0, 0), passing(0, 0), outat(0, 0, 3), arriving(0, (1, 1), 0),
    leading(0, 0, (1, 0)), least(0), longest(0), overlink(0, 0), used(0, 0, [0]), loop(0, 1),
]
# What these 14 calls answer on each of the three networks.
ON_EXAMPLE = [
    [30] + EXAMPLE, [0, 0, 1, 1, 1, 0, 1], [3, 0, 0, 1, 2, 1, 1, 0, 1, 2, 1, 1], [0, 0], [2, 1, 2, 0], [4, 1, 0, 0],
    [0, 0], [2, 1, 1, 1], [2, 1, 1, 0], [1, 0, 0], [1, 2, 2], [2, 1, 2, 2], [2, 1, 2, 2], [0],
]
ON_OTHER = [
    [len(OTHER)] + OTHER, [0, 0, 3, 1, 1, 0, 1], [1, 0, 0, 3, 2], [2, 1, 0, 0], [2, 1, 0, 0], [2, 1, 0, 0],
    [2, 1, 0, 0], [1, 1, 1, 1], [1, 1, 1, 0], [1, 0, 0], [1, 1, 0], [-7], [2, 1, 0, 0], [0],
]
ON_GOING_ROUND = [
    [len(GOING_ROUND)] + GOING_ROUND, [3, 2, 0, 1, 1, 1], [2, 2, 0, 1, 3, 1], [0, 0], [0, 0], [2, 1, 0, 0],
    [0, 0], [1, 1, 1, 1], [1, 1, 1, 0], [0], [1, 1, 0], [1, 1, 1, 1], [1, 1, 1, 1], [2, 0, 1, 1, 1],
]


def one_list(calls):
    return [number for call in calls for number in call]


class LineTest(unittest.TestCase):
    def test_lengths_stand_before_the_answers(self):
        calls = told() + net(EXAMPLE) + way(0, 3) + ends(7) + way(1, 9) + told()
        self.assertEqual(
            answers(calls),
            [1, -8, 3, 2, 2, 3, 8, 1, 1, 0, 2, 0, 3, 1, 3, 1, -2, 1, -3, 31, 30] + EXAMPLE)

    def test_several_nets(self):
        found = line(net(EXAMPLE), ends(0), net(OTHER), ends(0), told(), way(1, 0), net([]), told(), net(EXAMPLE), ends(0))
        self.assertEqual(found, [
            [2, 2, 3], [3, 0, 0, 1, 2, 1, 1, 0, 1, 2, 1, 1],
            [1, 1, 2], [1, 0, 0, 3, 2], [len(OTHER)] + OTHER, [-2],
            [-1], [len(OTHER)] + OTHER,
            [2, 2, 3], [3, 0, 0, 1, 2, 1, 1, 0, 1, 2, 1, 1],
        ])

    def test_every_call_on_several_networks(self):
        calls = EVERY_CALL + [net(EXAMPLE)] + EVERY_CALL + [net(OTHER)] + EVERY_CALL + [net(GOING_ROUND)] + EVERY_CALL
        self.assertEqual(len(calls), 59)
        expected = [[-8]] * 14 + [[2, 2, 3]] + ON_EXAMPLE + [[1, 1, 2]] + ON_OTHER + [[2, 1, 0]] + ON_GOING_ROUND
        self.assertEqual(line(*calls), expected)

    def test_every_call_after_nets_that_were_refused(self):
        calls = [net(GOING_ROUND), net([])] + EVERY_CALL + [net(EXAMPLE[:-1])] + EVERY_CALL + [net(OTHER + [0])]
        calls += [net(EXAMPLE)] + EVERY_CALL + [net([-1] * 500)] + EVERY_CALL[:12]
        self.assertEqual(len(calls), 60)
        expected = [[2, 1, 0], [-1]] + ON_GOING_ROUND + [[-1]] + ON_GOING_ROUND + [[-1]]
        expected += [[2, 2, 3]] + ON_EXAMPLE + [[-1]] + ON_EXAMPLE[:12]
        self.assertEqual(line(*calls), expected)

    def test_every_call_leaves_the_list_and_answers_the_same_again(self):
        calls = one_list([net(EXAMPLE)] + EVERY_CALL + [net([7])] + [net(GOING_ROUND)] + EVERY_CALL + [used(0, 0, [9])])
        before = list(calls)
        first = answers(calls)
        self.assertEqual(calls, before)
        self.assertEqual({type(number) for number in first}, {int})
        kept = list(first)
        first.clear()
        self.assertEqual(answers(calls), kept)
        self.assertEqual(calls, before)
        self.assertEqual(answers(one_list(EVERY_CALL)), [1, -8] * 14)

    def test_the_order_of_the_calls_changes_no_answer(self):
        found = on(GOING_ROUND, *(EVERY_CALL[::-1] + EVERY_CALL + EVERY_CALL[::-1]))
        self.assertEqual(found, ON_GOING_ROUND[::-1] + ON_GOING_ROUND + ON_GOING_ROUND[::-1])

    def test_sixty_calls(self):
        calls = [net(EXAMPLE)] + [way(0, 2)] * 58 + [told()]
        found = line(*calls)
        self.assertEqual(found, [[2, 2, 3]] + [[2, 1, 2, 0, 2, 1, 2]] * 58 + [[30] + EXAMPLE])

    def test_sixty_calls_of_used_with_twenty_switches(self):
        calls = [net(EXAMPLE)] + [used(0, 0, [0] * 20), used(1, 1, [1, 0])] * 29 + [loop(0, 0)]
        self.assertEqual(line(*calls), [[2, 2, 3]] + [[-2], [1, 1, 3, 1]] * 29 + [[0]])

    def test_sixty_nets_of_the_longest_ways(self):
        rules = [send((127 >> bit, 63 >> bit), 0, (127 >> bit, 64 >> bit)) for bit in range(7)]
        numbers = network(7, [rules + [drop((0, 0))]], [[0, 0, 0, 1]])
        self.assertEqual(line(*[net(numbers)] * 60), [[1, 7, 0]] * 60)

    def test_list_of_five_hundred_numbers(self):
        self.assertEqual(line(net([0] * 500), net(EXAMPLE + [0] * 470), net(EXAMPLE)), [[-1], [-1], [2, 2, 3]])

    def test_what_is_handed_in_is_not_changed(self):
        calls = net(EXAMPLE) + told() + way(0, 3) + net([5]) + ends(0) + tokind(0, 0) + net(OTHER) + told()
        before = list(calls)
        first = answers(calls)
        self.assertEqual(calls, before)
        first.clear()
        self.assertEqual(calls, before)

    def test_nothing_is_kept(self):
        calls = net(EXAMPLE) + told() + way(0, 3) + ends(0) + way(9, 0) + net(OTHER) + told()
        first = answers(calls)
        self.assertEqual(answers(told()), [1, -8])
        self.assertEqual(answers(calls), first)
        kept = list(first)
        first.clear()
        self.assertEqual(answers(calls), kept)

    def test_a_told_network_tells_itself(self):
        again = on(EXAMPLE, told())[0][1:]
        self.assertEqual(line(net(again), told()), [[2, 2, 3], [30] + EXAMPLE])

    def test_answers_are_whole_numbers(self):
        calls = net(EXAMPLE) + told() + way(0, 3) + ends(0) + [4, 0, 0, 1] + tokind(0, 2) + [6, 0, 1] + [7, 0, 0, 1]
        given = answers(calls)
        self.assertIs(type(given), list)
        self.assertEqual({type(number) for number in given}, {int})


if __name__ == "__main__":
    unittest.main()
