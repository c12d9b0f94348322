"""The taking apart of what makes one flow another one, into rings and ways."""


class Change:
    """By arc how much more there is to be, or less; what is taken off is no more there.

    A trail of steps goes from node to node, none of them twice: `row` has its
    steps, `nodes` where it was, `place` by node where in `nodes` it stands, or -1.
    """

    def __init__(self, net, more):
        self.arcs = net[1]
        self.more = more
        self.leaving = [[] for _ in range(net[0])]
        for arc, (tail, head, _) in enumerate(self.arcs):
            if more[arc] > 0:
                self.leaving[tail].append((arc, 1))
            elif more[arc] < 0:
                self.leaving[head].append((arc, -1))
        self.row = []
        self.nodes = []
        self.place = [-1] * net[0]

    def begin(self, node):
        """Begins the trail anew at a node."""
        self.cut(0)
        self.nodes = [node]
        self.place[node] = 0

    def cut(self, many):
        """Leaves of the trail's nodes the first ones alone, so many."""
        for node in self.nodes[many:]:
            self.place[node] = -1
        del self.nodes[many:]
        del self.row[max(many - 1, 0):]

    def next_step(self):
        """A step that is still to be gone from where the trail is, None if there is none."""
        steps = self.leaving[self.nodes[-1]]
        while steps and self.more[steps[-1][0]] == 0:
            steps.pop()
        return steps[-1] if steps else None

    def go_on(self, found):
        """Goes a step on; a ring that closes is taken off, and the trail goes on where it began."""
        arc, way = self.next_step()
        self.row.append((arc, way))
        node = self.arcs[arc][1 if way == 1 else 0]
        at = self.place[node]
        if at >= 0:
            found.append(self.take_off(self.row[at:], None))
            self.cut(at + 1)
        else:
            self.place[node] = len(self.nodes)
            self.nodes.append(node)

    def take_off(self, steps, most):
        """Takes steps off as often as all can be, at most so often (None: any number)."""
        many = min([abs(self.more[arc]) for arc, _ in steps])
        if most is not None:
            many = min(many, most)
        for arc, way in steps:
            self.more[arc] -= way * many
        return many, tuple(steps)

    def ways(self, start, goal, many):
        """Takes off ways from the start to the goal, so many, and the rings that close meanwhile."""
        found = []
        self.begin(start)
        while many > 0:
            self.go_on(found)
            if self.nodes[-1] == goal:
                found.append(self.take_off(self.row, many))
                many -= found[-1][0]
                self.cut_spent()
        return found

    def cut_spent(self):
        """Leaves of the trail what is ahead of its first step that can be gone no more."""
        spent = [at for at, (arc, _) in enumerate(self.row) if self.more[arc] == 0]
        if spent:
            self.cut(spent[0] + 1)

    def rings(self, start):
        """Takes off rings until nothing more leads out of a node; no ways may be left."""
        found = []
        self.begin(start)
        while self.next_step() is not None:
            self.go_on(found)
        return found
