import unittest

from tests.helper import EXAMPLE, LARGE, ask, ends, line, net, on, outat, passing, toexit, tokind, told, way

BESIDE = (-LARGE, -1, LARGE)
# The example has 2 switches, headers from 0 to 3, and a link from 0 0 to 1 0.
NO_SWITCHES = BESIDE + (2,)
NO_HEADERS = BESIDE + (4,)
NO_PORTS = BESIDE + (6,)
NO_KINDS = BESIDE + (4,)

EVERY_OTHER_CALL = [
    told(), way(0, 0), ends(0), toexit(0, 0, 0), tokind(0, 0), passing(0, 0), outat(0, 0, 0),
    [8, 0, 0, 0, 0], [9, 0, 0, 0, 0], [10, 0], [11, 0], [12, 0, 0], [13, 0, 0, 0], [13, 0, 0, 3, 0, 1, 0], [14, 0, 0],
]
WRONG_CALLS = [
    way(-1, -1), ends(LARGE), toexit(-1, -1, -1), tokind(-1, 9), passing(-1, -1), outat(9, 9, 9),
    [8, -1, -1, -1, -1], [9, -1, -1, -1, -1], [10, 9], [11, -1], [12, -1, -1], [13, -1, -1, 2, -1, -1], [14, -1, -1],
]


class NoNetworkTest(unittest.TestCase):
    def test_before_the_first_network(self):
        for call in EVERY_OTHER_CALL + WRONG_CALLS:
            with self.subTest(call=call):
                self.assertEqual(line(call), [[-8]])

    def test_one_behind_another(self):
        calls = EVERY_OTHER_CALL + WRONG_CALLS
        self.assertEqual(line(*calls), [[-8]] * len(calls))
        self.assertEqual(line(*(calls + [net(EXAMPLE)])), [[-8]] * len(calls) + [[2, 2, 3]])

    def test_after_a_net_that_was_refused(self):
        for call in EVERY_OTHER_CALL + WRONG_CALLS:
            with self.subTest(call=call):
                self.assertEqual(line(net([2, 1]), call, net([]), call), [[-1], [-8], [-1], [-8]])


class RefusalTest(unittest.TestCase):
    def answered(self, call, answer):
        with self.subTest(call=call):
            self.assertEqual(ask(EXAMPLE, call), answer)

    def test_switch(self):
        for switch in NO_SWITCHES:
            self.answered(way(switch, 0), [-2])
            self.answered(ends(switch), [-2])
            self.answered(toexit(switch, 0, 1), [-2])
            self.answered(tokind(switch, 0), [-2])
            self.answered(passing(switch, 0), [-2])
            self.answered(outat(switch, 0, 1), [-2])

    def test_other(self):
        for other in NO_SWITCHES:
            self.answered(passing(0, other), [-2])

    def test_header(self):
        for header in NO_HEADERS:
            self.answered(way(0, header), [-3])
            self.answered(way(1, header), [-3])

    def test_exit(self):
        for call in (toexit, outat):
            for switch in NO_SWITCHES:
                self.answered(call(0, switch, 1), [-4])
                self.answered(call(0, switch, 9), [-4])
            for port in NO_PORTS:
                self.answered(call(0, 0, port), [-4])
                self.answered(call(1, 1, port), [-4])
            self.answered(call(0, 0, 0), [-4])
            self.answered(call(0, 1, 0), [-4])

    def test_kind(self):
        for kind in NO_KINDS:
            self.answered(tokind(0, kind), [-6])

    def test_last_numbers_that_are_not_refused(self):
        self.answered(way(1, 3), [1, 1, 0, 1, 1, 3])
        self.answered(way(0, 0), [0, 0, 1, 1, 1, 0, 0])
        self.answered(toexit(1, 1, 5), [0, 0])
        self.answered(outat(1, 0, 5), [0, 0])
        self.answered(toexit(0, 1, 1), [0, 0])
        self.answered(tokind(1, 3), [0, 0])
        self.answered(tokind(1, 0), [1, 1, 3, 1])
        self.answered(passing(1, 1), [4, 1, 0, 0])

    def test_order(self):
        for switch in NO_SWITCHES:
            for header in NO_HEADERS:
                self.answered(way(switch, header), [-2])
            for kind in NO_KINDS:
                self.answered(tokind(switch, kind), [-2])
            for port in NO_PORTS + (0,):
                self.answered(toexit(switch, 0, port), [-2])
                self.answered(outat(switch, 0, port), [-2])
                self.answered(toexit(switch, switch, port), [-2])
                self.answered(outat(switch, switch, port), [-2])

    def test_a_refusal_changes_nothing(self):
        good = [told(), way(0, 3), ends(0), toexit(0, 0, 1), tokind(0, 2), passing(0, 1), outat(0, 0, 1)]
        bad = [way(9, 0), ends(9), toexit(0, 0, 0), tokind(0, 9), passing(0, 9), outat(0, 0, 0), way(0, 9), net([9])]
        alone = on(EXAMPLE, *good)
        between = on(EXAMPLE, *(bad + good + bad))
        self.assertEqual(between[len(bad):len(bad) + len(good)], alone)
        self.assertEqual(between[:len(bad)], [[-2], [-2], [-4], [-6], [-2], [-4], [-3], [-1]])
        self.assertEqual(between[-len(bad):], between[:len(bad)])


if __name__ == "__main__":
    unittest.main()
