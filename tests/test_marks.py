"""Point 3: marks."""

import unittest

from tests.helping import ALL_MARKS, INT_LEAST, INT_MOST, ask, last, marks, open_graph, where

EACH_MARK = [where(mark) for mark in range(64)]


class Marks(unittest.TestCase):
    def test_none_of_them(self):
        given = ask(open_graph(2), marks(0, 0), *EACH_MARK)
        self.assertEqual(given[1:], [[0]] + [[0]] * 64)

    def test_all_of_them(self):
        given = ask(open_graph(2), marks(1, ALL_MARKS), *EACH_MARK)
        self.assertEqual(given[1:], [[0]] + [[1, 1]] * 64)

    def test_each_by_itself(self):
        for mark in range(64):
            given = ask(open_graph(1), marks(0, 1 << mark), *EACH_MARK)
            expected = [[1, 0] if other == mark else [0] for other in range(64)]
            self.assertEqual(given[2:], expected, mark)

    def test_given_again_they_are_these_alone(self):
        given = ask(open_graph(2), marks(0, 5), where(0), where(2), marks(0, 2), where(0), where(1), where(2),
                    marks(0, 0), where(1), marks(0, ALL_MARKS), where(63))
        self.assertEqual(given[1:], [[0], [1, 0], [1, 0], [0], [0], [1, 0], [0], [0], [0], [0], [1, 0]])

    def test_of_one_state_alone(self):
        given = ask(open_graph(4), marks(1, 1), marks(3, 3), where(0), where(1))
        self.assertEqual(given[3:], [[2, 1, 3], [1, 3]])

    def test_no_state(self):
        for other in (-1, -3, 3, 4096, INT_LEAST, INT_MOST):
            given = ask(open_graph(3), marks(0, 1), marks(other, ALL_MARKS), where(0), where(63))
            self.assertEqual(given[2:], [[-2], [1, 0], [0]], other)

    def test_the_last_state(self):
        self.assertEqual(last(open_graph(4096), marks(4095, ALL_MARKS)), [0])
        self.assertEqual(last(open_graph(4096), marks(4096, ALL_MARKS)), [-2])

    def test_out_of_their_range(self):
        for bits in (-1, ALL_MARKS + 1):
            self.assertEqual(ask(open_graph(1), marks(0, bits), where(0))[1:], [[-2], [0]])


if __name__ == "__main__":
    unittest.main()
