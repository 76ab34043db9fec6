"""Rows of states, each led to by an edge from the one before it."""


def fewest_row(graph, start, p, q):
    """The first of the shortest rows from start to a state that has q, all before it having p.

    An empty list where there is no such row.
    """
    came_from = {start: None}
    layer = [start]
    # A layer's states stand in the order of their first rows, so its first one that has q
    # ends the row that is meant.
    while len(layer) > 0:
        ends = [state for state in layer if q[state]]
        if len(ends) > 0:
            return row_to(came_from, ends[0])
        layer = next_layer(graph, [state for state in layer if p[state]], came_from)
    return []


def next_layer(graph, layer, came_from):
    """The states not met before that edges of the layer lead to; came_from takes them up."""
    farther = []
    for state in layer:
        for later in sorted(graph.following[state]):
            if later not in came_from:
                came_from[later] = state
                farther.append(later)
    return farther


def row_to(came_from, last):
    backwards = []
    state = last
    while state is not None:
        backwards.append(state)
        state = came_from[state]
    return list(reversed(backwards))
