"""The calls on one graph, handed in as one list of whole numbers, and their answers."""

from waysask.formulas import is_right, where_yes
from waysask.graphs import MOST_STATES, OUT_OF_RANGE, REFUSED, Graph
from waysask.rows import fewest_row

OPEN_GRAPH = 1
EDGE = 2
MARKS = 3
WHERE = 4

MOST_NUMBERS = 256
AHEAD_OF_FORMULA = 1
AHEAD_OF_FORMULAS = 4


def answers(calls):
    graph = Graph()
    given = []
    at = 0
    while at < len(calls):
        size = calls[at + 1]
        answer = answer_call(graph, calls[at], calls[at + 2:at + 2 + size])
        given.append(len(answer))
        given.extend(answer)
        # Beside its own numbers, a call has its number, their count and a 0: no call has lists.
        at += size + 3
    return given


def answer_call(graph, call, numbers):
    if call == OPEN_GRAPH:
        return [graph.open_graph(numbers[0])]
    if call == EDGE:
        return [graph.add_edge(numbers[0], numbers[1])]
    if call == MARKS:
        return [graph.set_marks(numbers[0], numbers[1])]
    if call == WHERE:
        return answer_where(graph, numbers)
    return answer_way(graph, numbers)


def is_length(n):
    return 1 <= n <= MOST_NUMBERS


def answer_where(graph, numbers):
    formula = numbers[AHEAD_OF_FORMULA:]
    if not is_length(numbers[0]):
        return [OUT_OF_RANGE]
    if not is_right(formula):
        return [REFUSED]
    found = [state for state, yes in enumerate(where_yes(graph, formula)) if yes]
    return [len(found)] + found


def answer_way(graph, numbers):
    n = numbers[0]
    m = numbers[1]
    start = numbers[2]
    most = numbers[3]
    if not is_length(n) or not is_length(m):
        return [OUT_OF_RANGE]
    if not graph.has_state(start) or most < 0 or most > MOST_STATES:
        return [OUT_OF_RANGE]
    p = numbers[AHEAD_OF_FORMULAS:AHEAD_OF_FORMULAS + n]
    q = numbers[AHEAD_OF_FORMULAS + n:]
    if not is_right(p) or not is_right(q):
        return [REFUSED]
    row = fewest_row(graph, start, where_yes(graph, p), where_yes(graph, q))
    return [len(row)] + row[:most]
