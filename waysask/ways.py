"""The ways of a graph: what some way, and what every way, from a state does.

An answer for every state is a list of True and False, one for each state in order.
"""


class Ways:
    """For each state: which states come second on its ways, and on whose ways it comes second."""

    def __init__(self, graph):
        self.after = []
        self.before = [[] for state in range(graph.state_count)]
        for state in range(graph.state_count):
            seconds = list(graph.following[state])
            # A way has no end: where no edge leads away, it stays.
            if len(seconds) == 0:
                seconds = [state]
            self.after.append(seconds)
            for second in seconds:
                self.before[second].append(state)

    def some_second(self, p):
        found = []
        for seconds in self.after:
            found.append(any([p[second] for second in seconds]))
        return found

    def every_second(self, p):
        found = []
        for seconds in self.after:
            found.append(all([p[second] for second in seconds]))
        return found

    def some_until(self, p, q):
        return self.spread(p, q, [1] * len(self.after))

    def every_until(self, p, q):
        return self.spread(p, q, [len(seconds) for seconds in self.after])

    def spread(self, p, q, needed):
        """Yes where q is, and where p is and so many second states as needed tells are yes."""
        found = list(q)
        lacking = list(needed)
        pending = [state for state, yes in enumerate(q) if yes]
        # Each state is pending once at most, so each second state is counted once.
        while len(pending) > 0:
            second = pending.pop()
            for state in self.before[second]:
                lacking[state] -= 1
                if p[state] and not found[state] and lacking[state] <= 0:
                    found[state] = True
                    pending.append(state)
        return found
