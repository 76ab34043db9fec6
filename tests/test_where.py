"""Point 4: where."""

import itertools
import unittest

from tests.helping import INT_LEAST, INT_MOST, OF_ONE, OF_TWO, Told, ask, building, last, open_graph, where, where_n

KNOWN = (*range(68), *range(70, 78))

# 0 -> 1 -> 2 -> 0 go round, 1 -> 3 leads out, 3 -> 4 ends in 4, which no edge leads away from;
# 5 has an edge to itself alone, 6 one to itself and one to 4.
EDGES = ((0, 1), (1, 2), (2, 0), (1, 3), (3, 4), (5, 5), (6, 6), (6, 4))


def yes(marked, *formula):
    answer = last(*building(7, EDGES, marked), where(*formula))
    assert answer[0] == len(answer) - 1, answer
    return answer[1:]


class PlainNumbers(unittest.TestCase):
    def test_mark(self):
        for mark in range(64):
            self.assertEqual(yes({2: (mark,), 6: (mark,)}, mark), [2, 6])
            self.assertEqual(yes({2: (mark,)}, (mark + 1) % 64), [])

    def test_everywhere(self):
        self.assertEqual(yes({}, 64), [0, 1, 2, 3, 4, 5, 6])

    def test_not(self):
        self.assertEqual(yes({2: (0,), 6: (0,)}, 0, 65), [0, 1, 3, 4, 5])
        self.assertEqual(yes({}, 64, 65), [])
        self.assertEqual(yes({2: (0,)}, 0, 65, 65), [2])

    def test_both_and_one_at_least(self):
        marked = {0: (0,), 1: (0, 1), 2: (1,)}
        self.assertEqual(yes(marked, 0, 1, 66), [1])
        self.assertEqual(yes(marked, 0, 1, 67), [0, 1, 2])


class AlongWays(unittest.TestCase):
    def test_second_state(self):
        self.assertEqual(yes({2: (0,)}, 0, 70), [1])
        self.assertEqual(yes({2: (0,)}, 0, 71), [])
        self.assertEqual(yes({2: (0,), 3: (0,)}, 0, 71), [1])
        self.assertEqual(yes({0: (0,)}, 0, 70), [2])
        self.assertEqual(yes({0: (0,)}, 0, 71), [2])

    def test_second_state_where_no_edge_leads_away(self):
        self.assertEqual(yes({4: (0,)}, 0, 70), [3, 4, 6])
        self.assertEqual(yes({4: (0,)}, 0, 71), [3, 4])
        self.assertEqual(yes({4: (0,)}, 0, 65, 71), [0, 1, 2, 5])

    def test_second_state_by_an_edge_to_itself(self):
        self.assertEqual(yes({5: (0,), 6: (0,)}, 0, 70), [5, 6])
        self.assertEqual(yes({5: (0,), 6: (0,)}, 0, 71), [5])

    def test_comes_to(self):
        self.assertEqual(yes({4: (0,)}, 0, 72), [0, 1, 2, 3, 4, 6])
        self.assertEqual(yes({4: (0,)}, 0, 73), [3, 4])
        self.assertEqual(yes({1: (0,)}, 0, 72), [0, 1, 2])
        self.assertEqual(yes({1: (0,)}, 0, 73), [0, 1, 2])
        self.assertEqual(yes({2: (0,), 4: (0,)}, 0, 73), [0, 1, 2, 3, 4])
        self.assertEqual(yes({}, 0, 72), [])
        self.assertEqual(yes({}, 0, 73), [])

    def test_all_states_have(self):
        self.assertEqual(yes({0: (0,), 1: (0,), 2: (0,)}, 0, 74), [0, 1, 2])
        self.assertEqual(yes({0: (0,), 1: (0,), 2: (0,)}, 0, 75), [])
        self.assertEqual(yes({0: (0,), 1: (0,)}, 0, 74), [])
        self.assertEqual(yes({1: (0,), 3: (0,), 4: (0,)}, 0, 74), [1, 3, 4])
        self.assertEqual(yes({1: (0,), 3: (0,), 4: (0,)}, 0, 75), [3, 4])
        self.assertEqual(yes({5: (0,), 6: (0,)}, 0, 74), [5, 6])
        self.assertEqual(yes({5: (0,), 6: (0,)}, 0, 75), [5])
        self.assertEqual(yes({}, 64, 75), [0, 1, 2, 3, 4, 5, 6])

    def test_until(self):
        marked = {0: (0,), 1: (0,), 3: (0,), 4: (1,)}
        self.assertEqual(yes(marked, 0, 1, 76), [0, 1, 3, 4])
        self.assertEqual(yes(marked, 0, 1, 77), [3, 4])
        self.assertEqual(yes({6: (0,), 4: (1,)}, 0, 1, 76), [4, 6])
        self.assertEqual(yes({6: (0,), 4: (1,)}, 0, 1, 77), [4])
        self.assertEqual(yes({0: (0,), 1: (0,), 2: (1,), 3: (1,)}, 0, 1, 77), [0, 1, 2, 3])

    def test_until_must_come(self):
        self.assertEqual(yes({5: (0,)}, 0, 1, 76), [])
        self.assertEqual(yes({5: (0,)}, 0, 1, 77), [])
        self.assertEqual(yes({4: (0,)}, 0, 1, 77), [])

    def test_until_needs_no_p_where_q_is(self):
        self.assertEqual(yes({5: (1,)}, 0, 1, 76), [5])
        self.assertEqual(yes({5: (1,)}, 0, 1, 77), [5])

    def test_p_is_below_q(self):
        marked = {3: (0,), 4: (1,)}
        self.assertEqual(yes(marked, 0, 1, 76), [3, 4])
        self.assertEqual(yes(marked, 1, 0, 76), [3])
        self.assertEqual(yes(marked, 0, 1, 77), [3, 4])
        self.assertEqual(yes(marked, 1, 0, 77), [3])

    def test_two_edges_to_one_loop(self):
        # Both second states of 0 come to 3, but 1 may also stay.
        edges = ((0, 1), (0, 2), (1, 1), (1, 3), (2, 3))
        self.assertEqual(last(*building(4, edges, {3: (0,)}), where(0, 73)), [2, 2, 3])
        self.assertEqual(last(*building(4, edges[:2] + edges[3:], {3: (0,)}), where(0, 73)), [4, 0, 1, 2, 3])


class AllSmallGraphs(unittest.TestCase):
    def formulas(self):
        # In the graphs below mark k is where bit s of k says so: the marks 0 to 7 are all choices of states.
        found = [(p, number) for p in range(8) for number in OF_ONE]
        found += [(p, q, number) for p in range(8) for q in range(8) for number in (76, 77)]
        return found

    def test_each_graph_of_three_states(self):
        pairs = list(itertools.product(range(3), repeat=2))
        marked = {state: [k for k in range(8) if k >> state & 1] for state in range(3)}
        marks_of = [sum(1 << k for k in marked[state]) for state in range(3)]
        formulas = self.formulas()
        for chosen in range(512):
            edges = [pair for k, pair in enumerate(pairs) if chosen >> k & 1]
            told = Told(3, edges, marks_of)
            for part in (formulas[:100], formulas[100:]):
                start = building(3, edges, marked)
                given = ask(*start, *[where(*formula) for formula in part])[len(start):]
                self.assertEqual(given, [told.where(formula) for formula in part], edges)


class LargerGraphs(unittest.TestCase):
    def numbers(self):
        """The same numbers each time, in no plain order."""
        value = 12345
        while True:
            value = (value * 6364136223846793005 + 1442695040888963407) % 2 ** 64
            yield value >> 33

    def formula(self, numbers, length):
        formula = []
        height = 0
        while len(formula) < length or height > 1:
            number = KNOWN[next(numbers) % len(KNOWN)] if next(numbers) % 3 else 70 + next(numbers) % 8
            if len(formula) >= length and height > 1:
                number = OF_TWO[next(numbers) % 4]
            number = number if number > 63 else number % 4
            taken = 2 if number in OF_TWO else 1 if number in OF_ONE else 0
            if taken <= height:
                formula.append(number)
                height += 1 - taken
        return formula

    def test_mixed_formulas(self):
        numbers = self.numbers()
        for turn in range(150):
            states = 1 + next(numbers) % 6
            edges = [(next(numbers) % states, next(numbers) % states) for k in range(next(numbers) % 12)]
            marked = {state: [k for k in range(4) if next(numbers) % 2] for state in range(states)}
            told = Told(states, edges, [sum(1 << k for k in marked[state]) for state in range(states)])
            formulas = [self.formula(numbers, 1 + next(numbers) % 20) for k in range(20)]
            start = building(states, edges, marked)
            given = ask(*start, *[where(*formula) for formula in formulas])[len(start):]
            self.assertEqual(given, [told.where(formula) for formula in formulas], (edges, formulas))


class NotRight(unittest.TestCase):
    def refused(self, *formula):
        self.assertEqual(last(open_graph(2), where(*formula)), [-1], formula)

    def taken(self, *formula):
        self.assertNotEqual(last(open_graph(2), where(*formula)), [-1], formula)

    def test_a_number_that_is_none_of_these(self):
        for number in range(256):
            if number not in KNOWN:
                self.refused(number)
                self.refused(0, number)
                self.refused(0, 1, number)
                self.refused(0, 1, number, 66)

    def test_each_number_by_itself(self):
        for number in range(256):
            if number <= 64:
                self.taken(number)
            else:
                self.refused(number)

    def test_takes_one_of_none(self):
        for number in OF_ONE:
            self.refused(number)
            self.refused(number, 0)
            self.refused(number, 0, 66)
            self.taken(0, number)

    def test_takes_two_of_less(self):
        for number in OF_TWO:
            self.refused(number)
            self.refused(0, number)
            self.refused(0, number, 1)
            self.refused(0, number, 1, 66)
            self.taken(0, 1, number)
            self.refused(0, 1, number, number)

    def test_more_than_one_at_the_end(self):
        self.refused(0, 1)
        self.refused(64, 64)
        self.refused(0, 1, 2, 66)
        self.refused(0, 1, 70)

    def test_a_long_one(self):
        self.taken(*[0] * 30, *[66] * 29)
        self.refused(*[0] * 30, *[66] * 28)
        self.refused(*[0] * 30, *[66] * 30)
        self.refused(*[0] * 60)

    def test_n_out_of_range(self):
        for n in (0, -1, -256, 257, 258, 1000, INT_LEAST, INT_MOST):
            self.assertEqual(last(open_graph(2), where_n(n)), [-2], n)

    def test_refused_changes_nothing(self):
        start = building(7, EDGES, {4: (0,)})
        given = ask(*start, where_n(0), where(66), where_n(257), where(0, 1), where(0, 72))
        self.assertEqual(given[len(start):], [[-2], [-1], [-2], [-1], [6, 0, 1, 2, 3, 4, 6]])


class Largest(unittest.TestCase):
    def test_n_of_60(self):
        self.assertEqual(yes({4: (0,)}, *[0, *[65] * 59]), [0, 1, 2, 3, 5, 6])
        self.assertEqual(yes({4: (0,)}, *[0, *[65] * 58]), [4])

    def test_n_of_256(self):
        self.assertEqual(yes({4: (0,)}, *[0, *[65] * 255]), [0, 1, 2, 3, 5, 6])
        self.assertEqual(yes({4: (0,)}, *[0] * 128, *[66] * 127), [4])
        self.assertEqual(last(open_graph(2), where(*[0] * 256)), [-1])

    def test_a_chain_of_40(self):
        chain = [(state, state + 1) for state in range(39)]
        start = building(40, chain, {39: (0,), 20: (1,)})
        given = ask(*start, where(0, 72), where(0, 73), where(1, 65, 0, 77), where(1, 75), where(0, 74), where(1, 72))
        self.assertEqual(given[len(start):], [
            [40, *range(40)], [40, *range(40)], [19, *range(21, 40)], [0], [1, 39], [21, *range(21)]])

    def test_a_ring_of_40(self):
        ring = [(state, (state + 1) % 40) for state in range(40)]
        start = building(40, ring, {7: (0,)})
        given = ask(*start, where(0, 73), where(0, 65, 74), where(0, *[70] * 7), where(0, *[71] * 8), where(0, 73, 75))
        self.assertEqual(given[len(start):], [[40, *range(40)], [0], [1, 0], [1, 39], [40, *range(40)]])


if __name__ == "__main__":
    unittest.main()
