"""Point 5: way."""

import itertools
import unittest

from tests.helping import INT_LEAST, INT_MOST, Told, ask, building, last, open_graph, way, way_nm

# From 0 to 5 lead one row of three states, 0 1 5, and two of four, 0 2 4 5 and 0 3 1 5.
EDGES = ((0, 3), (0, 2), (3, 1), (2, 4), (4, 5), (1, 5), (0, 1), (5, 0))


def row(edges, marked, p, q, start, most=4096, states=7):
    return last(*building(states, edges, marked), way(p, q, start, most))


class Rows(unittest.TestCase):
    def test_of_one_state(self):
        self.assertEqual(row(EDGES, {0: (0,)}, (64,), (0,), 0), [1, 0])
        self.assertEqual(row(EDGES, {0: (0,)}, (64, 65), (0,), 0), [1, 0])
        self.assertEqual(row((), {6: (0,)}, (64, 65), (0,), 6), [1, 6])

    def test_of_more(self):
        self.assertEqual(row(EDGES, {5: (0,)}, (64,), (0,), 0), [3, 0, 1, 5])
        self.assertEqual(row(EDGES, {4: (0,)}, (64,), (0,), 3), [6, 3, 1, 5, 0, 2, 4])
        self.assertEqual(row(EDGES, {4: (0,)}, (64,), (0,), 0), [3, 0, 2, 4])

    def test_fewest_comes_ahead_of_first(self):
        edges = ((0, 1), (1, 2), (2, 3), (0, 5), (5, 3))
        self.assertEqual(row(edges, {3: (0,)}, (64,), (0,), 0), [3, 0, 5, 3])

    def test_first_by_numbers_from_the_front(self):
        # Of 0 1 6 and 0 2 3 the first has the smaller second state, the larger end.
        edges = ((0, 2), (2, 3), (0, 1), (1, 6))
        self.assertEqual(row(edges, {3: (0,), 6: (0,)}, (64,), (0,), 0), [3, 0, 1, 6])

    def test_first_by_numbers_further_on(self):
        edges = ((0, 5), (0, 4), (5, 1), (4, 3), (4, 2), (1, 6), (3, 6), (2, 6))
        self.assertEqual(row(edges, {6: (0,)}, (64,), (0,), 0), [4, 0, 4, 2, 6])

    def test_all_before_the_end_have_p(self):
        marked = {0: (1,), 2: (1,), 4: (1,), 5: (0,)}
        self.assertEqual(row(EDGES, marked, (1,), (0,), 0), [4, 0, 2, 4, 5])
        self.assertEqual(row(EDGES, {2: (1,), 4: (1,), 5: (0,)}, (1,), (0,), 0), [0])
        self.assertEqual(row(EDGES, {0: (1,), 4: (1,), 5: (0,)}, (1,), (0,), 0), [0])

    def test_the_end_needs_no_p(self):
        self.assertEqual(row(EDGES, {5: (0,)}, (0, 65), (0,), 0), [3, 0, 1, 5])

    def test_none(self):
        self.assertEqual(row(EDGES, {6: (0,)}, (64,), (0,), 0), [0])
        self.assertEqual(row(EDGES, {}, (64,), (0,), 0), [0])
        self.assertEqual(row((), {1: (0,)}, (64,), (0,), 0), [0])
        self.assertEqual(row(EDGES, {6: (0,)}, (64,), (0,), 0, 0), [0])
        self.assertEqual(row(((0, 0),), {1: (0,)}, (64,), (0,), 0), [0])

    def test_edges_lead_forward_alone(self):
        self.assertEqual(row(((0, 1),), {0: (0,)}, (64,), (0,), 1), [0])

    def test_formulas_are_of_ways(self):
        # 6 has no edge away, so its ways stay: all of them keep mark 0.
        edges = ((0, 1), (1, 6))
        self.assertEqual(row(edges, {6: (0,)}, (0, 72), (0, 75), 0), [3, 0, 1, 6])
        self.assertEqual(row(edges, {6: (0,)}, (0, 70), (0, 75), 0), [0])

    def test_p_is_ahead_of_q(self):
        edges = ((0, 1), (1, 2))
        marked = {0: (0,), 1: (0,), 2: (1,)}
        self.assertEqual(row(edges, marked, (0,), (64, 1, 66), 0), [3, 0, 1, 2])
        self.assertEqual(row(edges, marked, (64, 0, 66), (1,), 0), [3, 0, 1, 2])
        self.assertEqual(row(edges, marked, (1,), (0,), 2), [0])


class Most(unittest.TestCase):
    def test_around_the_rows_length(self):
        marked = {4: (0,)}
        whole = [3, 1, 5, 0, 2, 4]
        for most in (0, 1, 2, 5, 6, 7, 8, 4095, 4096):
            self.assertEqual(row(EDGES, marked, (64,), (0,), 3, most), [6, *whole[:most]], most)

    def test_a_row_of_one(self):
        self.assertEqual(row((), {0: (0,)}, (64,), (0,), 0, 0), [1])
        self.assertEqual(row((), {0: (0,)}, (64,), (0,), 0, 1), [1, 0])
        self.assertEqual(row((), {0: (0,)}, (64,), (0,), 0, 2), [1, 0])

    def test_a_chain_of_40(self):
        chain = [(state, state + 1) for state in range(39)]
        for most in (0, 1, 39, 40, 41, 4096):
            given = row(chain, {39: (0,)}, (64,), (0,), 0, most, 40)
            self.assertEqual(given, [40, *range(min(most, 40))])


class AllSmallGraphs(unittest.TestCase):
    def test_each_graph_of_three_states(self):
        pairs = list(itertools.product(range(3), repeat=2))
        marked = {state: [k for k in range(8) if k >> state & 1] for state in range(3)}
        marks_of = [sum(1 << k for k in marked[state]) for state in range(3)]
        asked = [((p,), (q,), 0, 4096) for p in range(8) for q in range(8)]
        for chosen in range(512):
            edges = [pair for k, pair in enumerate(pairs) if chosen >> k & 1]
            told = Told(3, edges, marks_of)
            start = building(3, edges, marked)
            given = ask(*start, *[way(*one) for one in asked])[len(start):]
            self.assertEqual(given, [told.way(*one) for one in asked], edges)

    def test_many_graphs_of_six_states(self):
        value = 99
        for turn in range(60):
            edges = []
            for k in range(4 + turn % 8):
                value = (value * 6364136223846793005 + 1442695040888963407) % 2 ** 64
                edges.append(((value >> 33) % 6, (value >> 43) % 6))
            marks_of = [(value >> (20 + 2 * state)) & 3 | 2 * (state < 3) for state in range(6)]
            told = Told(6, edges, marks_of)
            marked = {state: [k for k in range(2) if marks_of[state] >> k & 1] for state in range(6)}
            start = building(6, edges, marked)
            asked = [(p, q, state, most) for p in ((64,), (1,), (0, 65)) for q in ((0,), (0, 65, 71))
                     for state in range(6) for most in (2, 4096)]
            given = ask(*start, *[way(*one) for one in asked])[len(start):]
            self.assertEqual(given, [told.way(*one) for one in asked], edges)


class Refused(unittest.TestCase):
    def test_not_right(self):
        wrong = ((65,), (66,), (68,), (69,), (78,), (255,), (0, 1), (0, 66), (70,), (76,), (0, 77), (64, 64))
        for formula in wrong:
            self.assertEqual(row(EDGES, {}, formula, (64,), 0), [-1], formula)
            self.assertEqual(row(EDGES, {}, (64,), formula, 0), [-1], formula)
            self.assertEqual(row(EDGES, {}, formula, formula, 0), [-1], formula)

    def test_p_and_q_do_not_share_a_pile(self):
        self.assertEqual(row(EDGES, {}, (0, 1), (66,), 0), [-1])
        self.assertEqual(row(EDGES, {}, (0, 1), (66, 64), 0), [-1])

    def test_not_right_where_there_is_a_row_of_one_all_the_same(self):
        self.assertEqual(row(EDGES, {}, (66,), (64,), 0), [-1])
        self.assertEqual(row(EDGES, {}, (66,), (64,), 0, 0), [-1])

    def test_n_and_m_out_of_range(self):
        for wrong in (0, -1, 257, 258, INT_LEAST, INT_MOST):
            self.assertEqual(last(open_graph(2), way_nm(wrong, 1, 0, 5, (64,))), [-2], wrong)
            self.assertEqual(last(open_graph(2), way_nm(1, wrong, 0, 5, (64,))), [-2], wrong)
            self.assertEqual(last(open_graph(2), way_nm(wrong, wrong, 0, 5)), [-2], wrong)

    def test_from_is_no_state(self):
        for wrong in (-1, -2, 2, 3, 4096, INT_LEAST, INT_MOST):
            self.assertEqual(last(open_graph(2), way((64,), (64,), wrong, 5)), [-2], wrong)

    def test_most_out_of_range(self):
        for wrong in (-1, 4097, INT_LEAST, INT_MOST):
            self.assertEqual(last(open_graph(2), way((64,), (64,), 0, wrong)), [-2], wrong)

    def test_out_of_range_comes_ahead_of_not_right(self):
        self.assertEqual(last(open_graph(2), way((66,), (64,), 2, 5)), [-2])
        self.assertEqual(last(open_graph(2), way((64,), (66,), 0, 4097)), [-2])
        self.assertEqual(last(open_graph(2), way_nm(0, 1, 0, 5, (66,))), [-2])

    def test_refused_changes_nothing(self):
        start = building(7, EDGES, {5: (0,)})
        given = ask(*start, way((66,), (0,), 0, 9), way((64,), (0,), 9, 9), way_nm(0, 0, 0, 0), way((64,), (0,), 0, 9))
        self.assertEqual(given[len(start):], [[-1], [-2], [-2], [3, 0, 1, 5]])

    def test_the_longest_formulas(self):
        long = (0, *[65] * 254)
        self.assertEqual(row(EDGES, {5: (0,)}, (64, *[65] * 254), long, 0), [3, 0, 1, 5])
        self.assertEqual(row(EDGES, {5: (0,)}, (*long, 65), (*[0] * 128, *[66] * 127), 0), [3, 0, 1, 5])


if __name__ == "__main__":
    unittest.main()
