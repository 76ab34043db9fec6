"""What holds over the whole program."""

import contextlib
import io
import sys
import unittest

from tests.helping import ALL_MARKS, ask, building, edge, marks, open_graph, split, way, where
from waysask.asking import answers

RING = [(state, (state + 1) % 40) for state in range(40)]


def joined(*calls):
    return [number for call in calls for number in call]


class TheInterface(unittest.TestCase):
    def test_written_out(self):
        calls = [1, 1, 3, 0,
                 2, 2, 0, 1, 0,
                 2, 2, 1, 2, 0,
                 2, 2, 1, 3, 0,
                 3, 2, 2, 1, 0,
                 4, 3, 2, 0, 72, 0,
                 4, 1, 0, 0,
                 4, 2, 1, 66, 0,
                 5, 6, 1, 1, 0, 2, 64, 0, 0,
                 5, 6, 1, 1, 0, 0, 64, 0, 0,
                 5, 6, 1, 1, 0, 9, 64, 1, 0,
                 5, 5, 0, 1, 0, 9, 0, 0]
        self.assertEqual(answers(calls), [1, 0,
                                          1, 0,
                                          1, 0,
                                          1, -2,
                                          1, 0,
                                          4, 3, 0, 1, 2,
                                          1, -2,
                                          1, -1,
                                          3, 3, 0, 1,
                                          1, 3,
                                          1, 0,
                                          1, -2])

    def test_nothing_found_is_one_number(self):
        self.assertEqual(answers(joined(open_graph(1), where(0))), [1, 0, 1, 0])

    def test_gives_a_list_of_whole_numbers(self):
        given = answers(joined(*building(3, [(0, 1)], {1: (0,)}), where(0, 72), way((64,), (0,), 0, 5)))
        self.assertIs(type(given), list)
        self.assertEqual({type(number) for number in given}, {int})

    def test_handed_in_is_not_changed(self):
        calls = joined(*building(3, [(0, 1)], {1: (0,)}), where(0, 72), way((64,), (0,), 0, 5), where(66))
        kept = list(calls)
        answers(calls)
        self.assertEqual(calls, kept)

    def test_handed_in_is_not_changed_for_a_while_either(self):
        class Frozen(list):
            def refuse(self, *others, **named):
                raise AssertionError("what is handed in was changed")

            append = extend = insert = pop = remove = clear = sort = reverse = refuse
            __setitem__ = __delitem__ = __iadd__ = __imul__ = refuse

        calls = joined(*building(3, [(0, 1)], {1: (0,)}), where(0, 72), way((64,), (0,), 0, 5), where(66))
        self.assertEqual(answers(Frozen(calls)), answers(calls))

    def test_the_same_twice(self):
        calls = joined(*building(3, [(0, 1), (1, 2)], {2: (0,)}), where(0, 72), way((64,), (0,), 0, 5))
        first = answers(calls)
        self.assertEqual(answers(calls), first)
        answers(joined(*building(5, [(0, 4)], {4: (1,)})))
        self.assertEqual(answers(calls), first)

    def test_nothing_is_kept(self):
        answers(joined(*building(3, [(0, 1), (1, 2)], {0: (0,), 2: (0,)})))
        self.assertEqual(ask(open_graph(3), where(0), where(64, 70), way((64,), (0,), 0, 5))[1:],
                         [[0], [3, 0, 1, 2], [0]])

    def test_what_was_given_is_not_kept(self):
        calls = joined(open_graph(2), where(64))
        first = answers(calls)
        first.clear()
        self.assertEqual(answers(calls), [1, 0, 3, 2, 0, 1])

    def test_prints_and_imports_nothing(self):
        loaded = set(sys.modules)
        out = io.StringIO()
        with contextlib.redirect_stdout(out), contextlib.redirect_stderr(out):
            answers(joined(*building(3, [(0, 1)], {1: (0,)}), where(0, 72), way((64,), (0,), 0, 5), where(66)))
        self.assertEqual(out.getvalue(), "")
        self.assertEqual(set(sys.modules), loaded)


class Largest(unittest.TestCase):
    def test_the_longest_list(self):
        formula = (*[0] * 30, *[66] * 29, 73)
        calls = joined(open_graph(40), *[way(formula, formula, 39, 4096)] * 119)
        self.assertEqual(len(calls), 15117)
        self.assertEqual(split(answers(calls)), [[0]] + [[0]] * 119)

    def test_the_longest_formulas_in_a_ring(self):
        formula = (0, *[65, 73] * 29, 65)
        start = building(40, RING, {39: (0,)})
        given = ask(*start, *[way((64, *[72] * 59), formula, 0, 4096)] * 78)
        told = ask(*start, where(*formula))[-1]
        ends = told[1:]
        expected = [ends[0] + 1, *range(ends[0] + 1)] if ends else [0]
        self.assertEqual(given[len(start):], [expected] * 78)

    def test_the_most_answers(self):
        given = answers(joined(open_graph(40), *[where(64)] * 119))
        self.assertTrue(given == [1, 0] + [41, 40, *range(40)] * 119)

    def test_the_most_edges_of_a_line(self):
        edges = [(k % 40, (k * k + k // 40) % 40) for k in range(117)]
        given = ask(*building(40, edges), where(64, 74), where(64, 65, 73))
        self.assertEqual(given[-2:], [[40, *range(40)], [0]])

    def test_the_most_states(self):
        calls = [marks(4095 - k, ALL_MARKS) for k in range(60)] + [edge(k, 4095 - k) for k in range(59)]
        self.assertEqual(ask(open_graph(4096), *calls), [[0]] * 120)

    def test_a_refused_open_alone(self):
        self.assertEqual(answers(open_graph(0)), [1, -2])


if __name__ == "__main__":
    unittest.main()
