import unittest

from packetends.networks import answers
from tests.helper import (EXAMPLE, arriving, ends, leading, least, line, longest, loop, net, on, outat, overlink, passing,
                          toexit, tokind, told, used, way)


class ExampleTest(unittest.TestCase):
    def test_answers_of_the_document(self):
        found = line(net(EXAMPLE), way(0, 3), way(0, 2), ends(0), toexit(0, 0, 1), outat(0, 0, 1),
                     arriving(0, (0, 0), 1), least(2))
        self.assertEqual(found, [
            [2, 2, 3],
            [1, 1, 0, 2, 0, 3, 1, 3],
            [2, 1, 2, 0, 2, 1, 2],
            [3, 0, 0, 1, 2, 1, 1, 0, 1, 2, 1, 1],
            [2, 1, 2, 0],
            [1, 1, 3, 1],
            [2, 1, 2, 2],
            [1, 0, 2],
        ])

    def test_the_numbers_of_the_interface(self):
        calls = [0, 30] + EXAMPLE + [8, 0, 0, 0, 1] + [10, 2] + [9, 0, 1, 1, 1] + [11, 0] + [12, 0, 0]
        calls += [13, 1, 0, 2, 0, 1] + [14, 0, 3] + [13, 1, 1, 0]
        self.assertEqual(answers(calls), [
            3, 2, 2, 3,
            4, 2, 1, 2, 2,
            3, 1, 0, 2,
            4, 1, 1, 3, 3,
            3, 1, 2, 2,
            4, 2, 1, 2, 2,
            4, 1, 1, 3, 3,
            1, 0,
            2, 0, 0,
        ])

    def test_calls_from_arriving_on(self):
        found = on(EXAMPLE, arriving(0, (1, 1), 1), arriving(1, (0, 0), 0), leading(0, 1, (3, 3)), leading(0, 1, (0, 0)),
                   least(0), least(1), least(3), longest(0), longest(1), overlink(0, 0), overlink(1, 0),
                   used(1, 0, [0]), used(1, 1, [0]), used(1, 1, [0, 1]), used(0, 1, [0]), loop(0, 3))
        self.assertEqual(found, [
            [1, 1, 3, 3], [0, 0], [1, 1, 3, 3], [2, 1, 2, 2],
            [1, 0, 0], [1, 0, 3], [0], [1, 2, 2], [1, 1, 0], [2, 1, 2, 2], [0, 0],
            [1, 1, 3, 3], [0, 0], [1, 1, 3, 1], [2, 1, 2, 0], [0],
        ])

    def test_other_calls_on_it(self):
        found = on(EXAMPLE, told(), tokind(0, 1), tokind(0, 2), tokind(0, 3), passing(0, 1), passing(1, 0),
                   ends(1), toexit(1, 1, 2), toexit(0, 1, 2), outat(1, 1, 2), way(0, 0), way(1, 1))
        self.assertEqual(found, [
            [len(EXAMPLE)] + EXAMPLE,
            [1, 1, 3, 3],
            [1, 1, 3, 2],
            [0, 0],
            [2, 1, 2, 2],
            [0, 0],
            [3, 0, 1, 2, 1, 1, 1, 0, 1, 2, 1, 2],
            [1, 1, 3, 1],
            [0, 0],
            [1, 1, 3, 1],
            [0, 0, 1, 1, 1, 0, 0],
            [0, 1, 2, 1, 1, 1, 1],
        ])


if __name__ == "__main__":
    unittest.main()
