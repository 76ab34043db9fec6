"""What the tests share: calls as lists of numbers, and the words' meaning told another way."""

import itertools

from waysask.asking import answers

INT_LEAST = -2147483648
INT_MOST = 2147483647
ALL_MARKS = 18446744073709551615

OF_ONE = (65, 70, 71, 72, 73, 74, 75)
OF_TWO = (66, 67, 76, 77)


def open_graph(states):
    return [1, 1, states, 0]


def edge(a, b):
    return [2, 2, a, b, 0]


def marks(state, bits):
    return [3, 2, state, bits, 0]


def where(*formula):
    return where_n(len(formula), formula)


def where_n(n, formula=()):
    return [4, 1 + len(formula), n, *formula, 0]


def way(p, q, start, most):
    return way_nm(len(p), len(q), start, most, (*p, *q))


def way_nm(n, m, start, most, formulas=()):
    return [5, 4 + len(formulas), n, m, start, most, *formulas, 0]


def split(given):
    parts = []
    at = 0
    while at < len(given):
        parts.append(given[at + 1:at + 1 + given[at]])
        at += 1 + given[at]
    assert at == len(given), given
    return parts


def ask(*calls):
    """The answers of the calls, one list each; checks on the way that nothing handed in changes."""
    handed = [number for call in calls for number in call]
    before = list(handed)
    given = answers(handed)
    assert handed == before, "what was handed in has changed"
    assert isinstance(given, list) and all(type(number) is int for number in given), given
    parts = split(given)
    assert len(parts) == len(calls), given
    return parts


def last(*calls):
    return ask(*calls)[-1]


def building(states, edges=(), marked=None):
    """The calls that make a graph; marked: a state's marks, as the numbers of the bits."""
    calls = [open_graph(states)]
    calls.extend(edge(a, b) for a, b in edges)
    for state, bits in (marked or {}).items():
        calls.append(marks(state, sum(1 << bit for bit in bits)))
    return calls


def lassos(states, edges, start):
    """Ways from start that go round from the first state met again: (states, where it goes back to).

    For each number of a formula these tell of all ways, as the graph is finite.
    """
    found = []
    rows = [(start,)]
    while rows:
        row = rows.pop()
        seconds = [b for a, b in edges if a == row[-1]] or [row[-1]]
        for second in seconds:
            if second in row:
                found.append((row, row.index(second)))
            else:
                rows.append((*row, second))
    return found


def holds_on(number, lasso, p, q):
    row, back = lasso
    if number in (70, 71):
        return p[row[1] if len(row) > 1 else row[back]]
    if number in (72, 73):
        return any(p[state] for state in row)
    if number in (74, 75):
        return all(p[state] for state in row)
    return any(q[state] and all(p[early] for early in row[:k]) for k, state in enumerate(row))


class Told:
    """A graph whose questions are answered by going through its lassos and rows one by one."""

    def __init__(self, states, edges, marks_of):
        self.states = states
        self.edges = sorted(set(edges))
        self.marks_of = marks_of
        self.lassos = [lassos(states, self.edges, state) for state in range(states)]

    def along(self, number, p, q):
        measure = any if number % 2 == 0 else all
        return [measure(holds_on(number, lasso, p, q) for lasso in self.lassos[state])
                for state in range(self.states)]

    def one_answer(self, number, p, q):
        everyone = range(self.states)
        if number < 64:
            return [bool(self.marks_of[state] & (1 << number)) for state in everyone]
        if number == 64:
            return [True for state in everyone]
        if number == 65:
            return [not p[state] for state in everyone]
        if number == 66:
            return [p[state] and q[state] for state in everyone]
        if number == 67:
            return [p[state] or q[state] for state in everyone]
        return self.along(number, p, q)

    def yes(self, formula):
        pile = []
        for number in formula:
            q = pile.pop() if number in OF_TWO else None
            p = pile.pop() if number in OF_TWO or number in OF_ONE else None
            pile.append(self.one_answer(number, p, q))
        assert len(pile) == 1
        return pile[0]

    def where(self, formula):
        found = [state for state, yes in enumerate(self.yes(formula)) if yes]
        return [len(found), *found]

    def way(self, p, q, start, most):
        has_p = self.yes(p)
        has_q = self.yes(q)
        edges = set(self.edges)
        for length in range(self.states):
            for later in itertools.product(range(self.states), repeat=length):
                row = (start, *later)
                if has_q[row[-1]] and all(has_p[state] for state in row[:-1]) \
                        and all(pair in edges for pair in zip(row, row[1:])):
                    return [len(row), *row[:most]]
        return [0]
