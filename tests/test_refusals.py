import unittest

from tests.helper import (EXAMPLE, LARGE, arriving, ask, drop, ends, leading, least, line, longest, loop, net, network, on,
                          outat, overlink, passing, send, toexit, tokind, told, used, way)

BESIDE = (-LARGE, -1, LARGE)
# The example has 2 switches, headers from 0 to 3, and a link from 0 0 to 1 0.
NO_SWITCHES = BESIDE + (2,)
NO_HEADERS = BESIDE + (4,)
NO_PORTS = BESIDE + (6,)
NO_KINDS = BESIDE + (4,)
NO_LINKS = BESIDE + (1,)
NO_RULES = BESIDE + (2,)
NO_PATTERNS = (
    (-1, 0), (-1, -1), (0, -1), (3, -1), (-4, -4), (4, 0), (4, 4), (7, 0), (3, 4), (5, 1), (0, 1), (0, 2), (0, 3),
    (1, 2), (1, 3), (2, 1), (2, 3), (LARGE, 0), (LARGE, LARGE), (0, LARGE), (3, LARGE), (-LARGE, 0), (0, -LARGE),
    (-LARGE, -LARGE),
)
PATTERNS = ((0, 0), (1, 0), (1, 1), (2, 0), (2, 2), (3, 0), (3, 1), (3, 2), (3, 3))
NO_ROWS = (
    [0] * 6, [0, 1, 0, 1, 0, 1], [0] * 20, [2], [-1], [LARGE], [-LARGE], [0, 2], [2, 0], [0, 0, 0, 0, 2],
    [0, 1, -1, 1, 0], [9] * 6, [LARGE] * 20,
)

EVERY_OTHER_CALL = [
    told(), way(0, 0), ends(0), toexit(0, 0, 0), tokind(0, 0), passing(0, 0), outat(0, 0, 0),
    arriving(0, (0, 0), 0), leading(0, 0, (0, 0)), least(0), longest(0), overlink(0, 0), used(0, 0, []),
    used(0, 0, [0, 1, 0]), loop(0, 0),
]
WRONG_CALLS = [
    way(-1, -1), ends(LARGE), toexit(-1, -1, -1), tokind(-1, 9), passing(-1, -1), outat(9, 9, 9),
    arriving(-1, (-1, -1), -1), leading(-1, -1, (-1, -1)), least(9), longest(-1), overlink(-1, -1),
    used(-1, -1, [-1, -1]), used(0, 0, [0] * 20), loop(-1, -1),
]


class NoNetworkTest(unittest.TestCase):
    def test_before_the_first_network(self):
        for call in EVERY_OTHER_CALL + WRONG_CALLS:
            with self.subTest(call=call):
                self.assertEqual(line(call), [[-8]])

    def test_one_behind_another(self):
        calls = EVERY_OTHER_CALL + WRONG_CALLS
        self.assertEqual(line(*calls), [[-8]] * len(calls))
        self.assertEqual(line(*(calls + [net(EXAMPLE)])), [[-8]] * len(calls) + [[2, 2, 3]])

    def test_after_a_net_that_was_refused(self):
        for call in EVERY_OTHER_CALL + WRONG_CALLS:
            with self.subTest(call=call):
                self.assertEqual(line(net([2, 1]), call, net([]), call), [[-1], [-8], [-1], [-8]])


class RefusalTest(unittest.TestCase):
    def answered(self, call, answer):
        with self.subTest(call=call):
            self.assertEqual(ask(EXAMPLE, call), answer)

    def test_switch(self):
        for switch in NO_SWITCHES:
            self.answered(way(switch, 0), [-2])
            self.answered(ends(switch), [-2])
            self.answered(toexit(switch, 0, 1), [-2])
            self.answered(tokind(switch, 0), [-2])
            self.answered(passing(switch, 0), [-2])
            self.answered(outat(switch, 0, 1), [-2])
            self.answered(arriving(switch, (0, 0), 1), [-2])
            self.answered(leading(switch, 1, (0, 0)), [-2])
            self.answered(longest(switch), [-2])
            self.answered(overlink(switch, 0), [-2])
            self.answered(used(switch, 0, [0]), [-2])
            self.answered(loop(switch, 0), [-2])

    def test_other(self):
        for other in NO_SWITCHES:
            self.answered(passing(0, other), [-2])
            self.answered(arriving(0, (0, 0), other), [-2])
            self.answered(leading(0, other, (0, 0)), [-2])

    def test_header(self):
        for header in NO_HEADERS:
            self.answered(way(0, header), [-3])
            self.answered(way(1, header), [-3])
            self.answered(loop(0, header), [-3])
            self.answered(loop(1, header), [-3])

    def test_first_and_last_header(self):
        for width in range(1, 8):
            numbers = network(width, [[send((0, 0), 0)]], [[0, 0, 0, 1]])
            found = on(numbers, *[loop(0, header) for header in (-1, 0, 2 ** width - 1, 2 ** width)])
            self.assertEqual(found, [[-3], [1, 0, 0], [1, 0, 2 ** width - 1], [-3]])

    def test_exit(self):
        for call in (toexit, outat):
            for switch in NO_SWITCHES:
                self.answered(call(0, switch, 1), [-4])
                self.answered(call(0, switch, 9), [-4])
            for port in NO_PORTS:
                self.answered(call(0, 0, port), [-4])
                self.answered(call(1, 1, port), [-4])
            self.answered(call(0, 0, 0), [-4])
            self.answered(call(0, 1, 0), [-4])

    def test_kind(self):
        for kind in NO_KINDS:
            self.answered(tokind(0, kind), [-6])
            self.answered(least(kind), [-6])

    def test_pattern(self):
        for pattern in NO_PATTERNS:
            self.answered(arriving(0, pattern, 1), [-5])
            self.answered(leading(0, 1, pattern), [-5])

    def test_every_pattern_is_taken(self):
        for pattern in PATTERNS:
            count = 2 ** (2 - bin(pattern[0]).count("1"))
            self.answered(arriving(0, pattern, 0), [count, 1] + list(pattern))
            self.answered(leading(0, 0, pattern), [count, 1] + list(pattern))

    def test_pattern_of_other_widths(self):
        for width in range(1, 8):
            numbers = network(width, [[]])
            size = 2 ** width
            found = on(numbers, arriving(0, (size - 1, size - 1), 0), arriving(0, (size, 0), 0),
                       arriving(0, (size, size), 0), leading(0, 0, (size - 1, size - 1)), leading(0, 0, (size, 0)),
                       leading(0, 0, (size - 1, size)))
            exact = [1, 1, size - 1, size - 1]
            self.assertEqual(found, [exact, [-5], [-5], exact, [-5], [-5]])

    def test_link(self):
        for link in NO_LINKS:
            self.answered(overlink(0, link), [-7])
            self.answered(overlink(1, link), [-7])

    def test_no_links_at_all(self):
        numbers = network(1, [[send((0, 0), 0)]])
        for link in BESIDE + (0, 1):
            self.assertEqual(ask(numbers, overlink(0, link)), [-7])

    def test_ten_links(self):
        links = [[switch, 2 * pair, switch, 2 * pair + 1] for switch in range(4) for pair in range(3)][:10]
        found = on(network(1, [[]] * 4, links), *[overlink(0, link) for link in range(-1, 11)])
        self.assertEqual(found, [[-7]] + [[0, 0]] * 10 + [[-7]])

    def test_rule(self):
        for rule in NO_RULES:
            self.answered(used(0, rule, [0]), [-9])
            self.answered(used(1, rule, []), [-9])

    def test_rule_of_each_switch(self):
        numbers = network(1, [[drop((0, 0))] * 8, [], [drop((0, 0))]])
        for switch, count in enumerate([8, 0, 1]):
            for rule in range(-1, 10):
                with self.subTest(switch=switch, rule=rule):
                    found = ask(numbers, used(switch, rule, []))
                    self.assertEqual(found, [0, 0] if 0 <= rule < count else [-9])

    def test_switches(self):
        for switches in NO_ROWS:
            self.answered(used(0, 0, switches), [-2])

    def test_switches_that_are_taken(self):
        for switches in ([0], [1], [0, 1], [1, 0, 1, 0, 1], [0] * 5, [1] * 5):
            self.answered(used(0, 0, switches), [2, 1, 2, 2] if 0 in switches else [0, 0])
        self.answered(used(0, 0, []), [0, 0])

    def test_six_switches_are_too_many_in_any_network(self):
        for count in range(1, 6):
            numbers = network(1, [[drop((0, 0))]] * count)
            every = list(range(count))
            with self.subTest(count=count):
                found = on(numbers, used(0, 0, every), used(0, 0, (every * 6)[:5]), used(0, 0, (every * 6)[:6]),
                           used(0, 0, [count - 1]), used(0, 0, [count]))
                one = [2, 1, 0, 0] if count == 1 else [0, 0]
                self.assertEqual(found, [[2, 1, 0, 0], [2, 1, 0, 0], [-2], one, [-2]])

    def test_last_numbers_that_are_not_refused(self):
        self.answered(way(1, 3), [1, 1, 0, 1, 1, 3])
        self.answered(way(0, 0), [0, 0, 1, 1, 1, 0, 0])
        self.answered(toexit(1, 1, 5), [0, 0])
        self.answered(outat(1, 0, 5), [0, 0])
        self.answered(toexit(0, 1, 1), [0, 0])
        self.answered(tokind(1, 3), [0, 0])
        self.answered(tokind(1, 0), [1, 1, 3, 1])
        self.answered(passing(1, 1), [4, 1, 0, 0])
        self.answered(arriving(1, (3, 3), 1), [1, 1, 3, 3])
        self.answered(leading(0, 1, (3, 3)), [1, 1, 3, 3])
        self.answered(least(3), [0])
        self.answered(least(0), [1, 0, 0])
        self.answered(longest(1), [1, 1, 0])
        self.answered(overlink(1, 0), [0, 0])
        self.answered(used(1, 1, [1]), [1, 1, 3, 1])
        self.answered(loop(1, 3), [0])

    def test_order(self):
        for switch in NO_SWITCHES:
            for header in NO_HEADERS:
                self.answered(way(switch, header), [-2])
            for kind in NO_KINDS:
                self.answered(tokind(switch, kind), [-2])
            for port in NO_PORTS + (0,):
                self.answered(toexit(switch, 0, port), [-2])
                self.answered(outat(switch, 0, port), [-2])
                self.answered(toexit(switch, switch, port), [-2])
                self.answered(outat(switch, switch, port), [-2])

    def test_order_from_arriving_on(self):
        for switch in NO_SWITCHES:
            for pattern in NO_PATTERNS:
                self.answered(arriving(switch, pattern, 1), [-2])
                self.answered(arriving(switch, pattern, switch), [-2])
                self.answered(arriving(0, pattern, switch), [-5])
                self.answered(leading(switch, 1, pattern), [-2])
                self.answered(leading(0, switch, pattern), [-2])
            for link in NO_LINKS:
                self.answered(overlink(switch, link), [-2])
            for rule in NO_RULES + (0,):
                self.answered(used(switch, rule, []), [-2])
                self.answered(used(switch, rule, [9]), [-2])
            for header in NO_HEADERS:
                self.answered(loop(switch, header), [-2])
        for rule in NO_RULES:
            for switches in NO_ROWS:
                self.answered(used(0, rule, switches), [-9])

    def test_a_refusal_changes_nothing(self):
        good = [told(), way(0, 3), ends(0), toexit(0, 0, 1), tokind(0, 2), passing(0, 1), outat(0, 0, 1),
                arriving(0, (0, 0), 1), leading(0, 1, (1, 1)), least(2), longest(0), overlink(0, 0), used(1, 0, [0]),
                loop(0, 3)]
        bad = [way(9, 0), ends(9), toexit(0, 0, 0), tokind(0, 9), passing(0, 9), outat(0, 0, 0), way(0, 9), net([9]),
               arriving(0, (0, 1), 1), leading(0, 9, (0, 0)), least(9), longest(9), overlink(0, 1), used(0, 2, []),
               used(0, 0, [0] * 6), loop(0, 4)]
        alone = on(EXAMPLE, *good)
        between = on(EXAMPLE, *(bad + good + bad))
        self.assertEqual(between[len(bad):len(bad) + len(good)], alone)
        self.assertEqual(between[:len(bad)], [
            [-2], [-2], [-4], [-6], [-2], [-4], [-3], [-1], [-5], [-2], [-6], [-2], [-7], [-9], [-2], [-3]])
        self.assertEqual(between[-len(bad):], between[:len(bad)])


if __name__ == "__main__":
    unittest.main()
