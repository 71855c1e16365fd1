import unittest

from tests.helper import EXAMPLE, ends, line, net, on, outat, passing, toexit, tokind, told, way


class ExampleTest(unittest.TestCase):
    def test_answers_of_the_document(self):
        found = line(net(EXAMPLE), way(0, 3), way(0, 2), ends(0), toexit(0, 0, 1), outat(0, 0, 1))
        self.assertEqual(found, [
            [2, 2, 3],
            [1, 1, 0, 2, 0, 3, 1, 3],
            [2, 1, 2, 0, 2, 1, 2],
            [3, 0, 0, 1, 2, 1, 1, 0, 1, 2, 1, 1],
            [2, 1, 2, 0],
            [1, 1, 3, 1],
        ])

    def test_other_calls_on_it(self):
        found = on(EXAMPLE, told(), tokind(0, 1), tokind(0, 2), tokind(0, 3), passing(0, 1), passing(1, 0),
                   ends(1), toexit(1, 1, 2), toexit(0, 1, 2), outat(1, 1, 2), way(0, 0), way(1, 1))
        self.assertEqual(found, [
            [len(EXAMPLE)] + EXAMPLE,
            [1, 1, 3, 3],
            [1, 1, 3, 2],
            [0, 0],
            [2, 1, 2, 2],
            [0, 0],
            [3, 0, 1, 2, 1, 1, 1, 0, 1, 2, 1, 2],
            [1, 1, 3, 1],
            [0, 0],
            [1, 1, 3, 1],
            [0, 0, 1, 1, 1, 0, 0],
            [0, 1, 2, 1, 1, 1, 1],
        ])


if __name__ == "__main__":
    unittest.main()
