"""Point 2: edge."""

import unittest

from tests.helping import INT_LEAST, INT_MOST, ask, edge, last, marks, open_graph, way, where
from waysask.graphs import Graph

NO_STATES = (-1, -2, 3, 4, 4096, INT_LEAST, INT_MOST)


def full_graph():
    """A graph with 32768 edges: from each of the states 0 to 7 to all 4096."""
    graph = Graph()
    graph.open_graph(4096)
    told = [graph.add_edge(a, b) for a in range(8) for b in range(4096)]
    return graph, told


class Edge(unittest.TestCase):
    def test_leads_one_way(self):
        given = ask(open_graph(3), edge(0, 2), marks(2, 1), marks(0, 2), where(0, 70), where(1, 70))
        self.assertEqual(given, [[0], [0], [0], [0], [2, 0, 2], [0]])

    def test_to_itself(self):
        given = ask(open_graph(2), edge(0, 0), edge(0, 1), marks(0, 1), where(0, 70), where(0, 71), where(0, 74))
        self.assertEqual(given[1:3], [[0], [0]])
        self.assertEqual(given[4:], [[1, 0], [0], [1, 0]])

    def test_there_already(self):
        calls = (open_graph(3), edge(0, 1), edge(0, 1), edge(0, 2), edge(0, 1), marks(1, 1), marks(2, 1))
        given = ask(*calls, where(0, 73), where(0, 71), where(0, 65, 73), where(64, 0, 77))
        self.assertEqual(given[:7], [[0]] * 7)
        self.assertEqual(given[7:], [[3, 0, 1, 2], [3, 0, 1, 2], [1, 0], [3, 0, 1, 2]])

    def test_no_state(self):
        for other in NO_STATES:
            self.assertEqual(last(open_graph(3), edge(other, 0)), [-2], other)
            self.assertEqual(last(open_graph(3), edge(0, other)), [-2], other)
            self.assertEqual(last(open_graph(3), edge(other, other)), [-2], other)

    def test_refused_changes_nothing(self):
        # Were an edge from or to the last state by a number from behind taken, a row would be found.
        wrong = [edge(0, -1), edge(-3, 2), edge(0, 3), edge(3, 0), edge(INT_LEAST, INT_MOST)]
        given = ask(open_graph(3), marks(2, 1), *wrong, where(0, 72), way((64,), (0,), 0, 3))
        self.assertEqual(given[2:], [[-2]] * 5 + [[1, 2], [0]])

    def test_the_most_of_states(self):
        given = ask(open_graph(4096), edge(4095, 4095), edge(0, 4095), edge(4095, 4096), edge(4096, 0))
        self.assertEqual(given[1:], [[0], [0], [-2], [-2]])

    def test_the_most_of_calls(self):
        calls = [edge(a % 4096, (a * 7) % 4096) for a in range(119)]
        self.assertEqual(ask(open_graph(4096), *calls), [[0]] * 120)

    def test_32768_edges(self):
        graph, told = full_graph()
        self.assertEqual((len(told), set(told)), (32768, {0}))
        self.assertEqual(graph.edge_count, 32768)
        before = [list(states) for states in graph.following]
        self.assertEqual(graph.add_edge(8, 0), -1)
        self.assertEqual(graph.add_edge(4095, 4095), -1)
        # A plain truth test: a difference of lists so long would take minutes to be told.
        self.assertTrue([list(states) for states in graph.following] == before)

    def test_32768_edges_and_one_of_them_again(self):
        graph, told = full_graph()
        self.assertEqual([graph.add_edge(0, 0), graph.add_edge(7, 4095)], [0, 0])
        self.assertEqual([graph.add_edge(8, 0), graph.add_edge(7, 4095)], [-1, 0])

    def test_32768_edges_and_no_state(self):
        graph, told = full_graph()
        self.assertEqual([graph.add_edge(4096, 0), graph.add_edge(0, -1)], [-2, -2])

    def test_edges_told_twice_count_once(self):
        graph = Graph()
        graph.open_graph(4096)
        told = [graph.add_edge(a, b) for a in range(8) for b in range(4096) for again in range(2)]
        self.assertEqual((len(told), set(told)), (65536, {0}))
        self.assertEqual(graph.add_edge(8, 0), -1)

    def test_the_last_edge_that_is_taken(self):
        graph = Graph()
        graph.open_graph(4096)
        told = [graph.add_edge(a, b) for a in range(8) for b in range(4096) if (a, b) != (3, 3)]
        self.assertEqual((len(told), set(told)), (32767, {0}))
        self.assertEqual([graph.add_edge(9, 9), graph.add_edge(3, 3), graph.add_edge(9, 9)], [0, -1, 0])

    def test_opened_again_has_room(self):
        graph, told = full_graph()
        self.assertEqual([graph.open_graph(9), graph.add_edge(8, 0)], [0, 0])


if __name__ == "__main__":
    unittest.main()
