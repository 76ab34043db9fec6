"""Formulas: which are right, and in which states a right one is yes."""

from waysask.ways import Ways

EVERYWHERE = 64
IS_NOT = 65
BOTH = 66
ONE_AT_LEAST = 67
SOME_SECOND = 70
EVERY_SECOND = 71
SOME_COMES = 72
EVERY_COMES = 73
SOME_KEEPS = 74
SOME_UNTIL = 76

# How many answers each number takes from the pile.
OF_ONE = (65, 70, 71, 72, 73, 74, 75)
OF_TWO = (66, 67, 76, 77)


def how_many_taken(number):
    """How many answers the number takes from the pile; None where no formula has it."""
    if 0 <= number <= EVERYWHERE:
        return 0
    if number in OF_ONE:
        return 1
    if number in OF_TWO:
        return 2
    return None


def is_right(formula):
    height = 0
    for number in formula:
        taken = how_many_taken(number)
        if taken is None or taken > height:
            return False
        height = height - taken + 1
    return height == 1


def where_yes(graph, formula):
    """The answer of a right formula for every state."""
    ways = Ways(graph)
    pile = []
    for number in formula:
        taken = how_many_taken(number)
        if taken == 0:
            pile.append(of_none(graph, number))
        elif taken == 1:
            p = pile.pop()
            pile.append(of_one(ways, number, p))
        else:
            q = pile.pop()
            p = pile.pop()
            pile.append(of_two(ways, number, p, q))
    return pile[0]


def of_none(graph, number):
    if number == EVERYWHERE:
        return [True] * graph.state_count
    return [((marks >> number) & 1) == 1 for marks in graph.marks_of]


def of_one(ways, number, p):
    everywhere = [True] * len(p)
    if number == IS_NOT:
        return opposite(p)
    if number == SOME_SECOND:
        return ways.some_second(p)
    if number == EVERY_SECOND:
        return ways.every_second(p)
    if number == SOME_COMES:
        return ways.some_until(everywhere, p)
    if number == EVERY_COMES:
        return ways.every_until(everywhere, p)
    # All states of a way have p just where it never comes to one that has not.
    if number == SOME_KEEPS:
        return opposite(ways.every_until(everywhere, opposite(p)))
    # 75 is left: on every way all states have p.
    return opposite(ways.some_until(everywhere, opposite(p)))


def of_two(ways, number, p, q):
    if number == BOTH:
        return [one and other for one, other in zip(p, q)]
    if number == ONE_AT_LEAST:
        return [one or other for one, other in zip(p, q)]
    if number == SOME_UNTIL:
        return ways.some_until(p, q)
    # 77 is left: every way comes to q, all before it having p.
    return ways.every_until(p, q)


def opposite(p):
    return [not yes for yes in p]
