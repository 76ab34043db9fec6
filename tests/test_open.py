"""Point 1: open."""

import unittest

from tests.helping import INT_LEAST, INT_MOST, ask, edge, marks, open_graph, where
from waysask.asking import answers


class Open(unittest.TestCase):
    def test_in_range(self):
        for states in (1, 2, 3, 40, 41, 1000, 4095, 4096):
            self.assertEqual(answers([1, 1, states, 0]), [1, 0], states)

    def test_out_of_range(self):
        for states in (0, -1, -2, -4096, 4097, 5000, INT_LEAST, INT_MOST):
            self.assertEqual(answers([1, 1, states, 0]), [1, -2], states)

    def test_so_many_states_from_0(self):
        for states in (1, 2, 39, 40):
            self.assertEqual(ask(open_graph(states), where(64))[1], [states, *range(states)])

    def test_so_many_states_of_the_most(self):
        given = ask(open_graph(4096), edge(4095, 0), edge(0, 4096), marks(4095, 1), marks(4096, 1))
        self.assertEqual(given, [[0], [0], [-2], [0], [-2]])

    def test_no_marks(self):
        calls = [where(mark) for mark in range(64)]
        self.assertEqual(ask(open_graph(3), *calls)[1:], [[0]] * 64)

    def test_no_edges(self):
        # Without edges every state's second state is itself, so mark 0 stays where it is.
        given = ask(open_graph(3), marks(1, 1), where(0, 70), where(0, 71), where(0, 72))
        self.assertEqual(given[2:], [[1, 1], [1, 1], [1, 1]])

    def test_opened_again(self):
        given = ask(open_graph(3), edge(0, 1), marks(1, 1), where(0, 70), open_graph(2),
                    where(0), where(64), marks(1, 1), where(0, 70), edge(0, 2))
        self.assertEqual(given, [[0], [0], [0], [2, 0, 1], [0], [0], [2, 0, 1], [0], [1, 1], [-2]])

    def test_refused_again_changes_nothing(self):
        for states in (0, 4097, INT_LEAST, INT_MOST):
            given = ask(open_graph(3), edge(0, 1), marks(1, 1), open_graph(states), where(0, 70), where(64))
            self.assertEqual(given[3:], [[-2], [2, 0, 1], [3, 0, 1, 2]])


if __name__ == "__main__":
    unittest.main()
