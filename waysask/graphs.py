"""A graph: its states, their marks and the edges between them."""

OUT_OF_RANGE = -2
REFUSED = -1
MOST_STATES = 4096
MOST_EDGES = 32768
MOST_MARKS = 18446744073709551615


class Graph:
    """States numbered from 0; before it is opened there are none."""

    def __init__(self):
        self.state_count = 0
        self.edge_count = 0
        self.marks_of = []
        self.following = []

    def has_state(self, state):
        return 0 <= state < self.state_count

    def open_graph(self, states):
        if states < 1 or states > MOST_STATES:
            return OUT_OF_RANGE
        self.state_count = states
        self.edge_count = 0
        self.marks_of = [0] * states
        # A dict each, so that an edge that is there already is seen at once.
        self.following = [{} for state in range(states)]
        return 0

    def add_edge(self, a, b):
        if not self.has_state(a) or not self.has_state(b):
            return OUT_OF_RANGE
        if b in self.following[a]:
            return 0
        if self.edge_count >= MOST_EDGES:
            return REFUSED
        self.following[a][b] = True
        self.edge_count += 1
        return 0

    def set_marks(self, state, marks):
        if not self.has_state(state) or marks < 0 or marks > MOST_MARKS:
            return OUT_OF_RANGE
        self.marks_of[state] = marks
        return 0
