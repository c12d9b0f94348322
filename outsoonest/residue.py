"""What a load leaves of a net: where walks lead, and going on till none leads to a goal."""


class Residue:
    """A net under a load that is changed by going on along walks.

    Arc k is gone forth by half 2k and back by half 2k + 1: `heads` tells
    where a half leads, `left` how often it can be gone, `leaving` by node
    the halves that lead out of it.
    """

    def __init__(self, net, load):
        many, arcs = net
        # The walks that are gone until there is none sum to less than this, if
        # their sum is bounded; so for an arc without a bound it is always enough.
        beyond = 1 + sum(load) + sum([most for _, _, most in arcs if most is not None])
        self.heads = []
        self.left = []
        self.leaving = [[] for _ in range(many)]
        for (tail, head, most), told in zip(arcs, load):
            self.leaving[tail].append(len(self.heads))
            self.leaving[head].append(len(self.heads) + 1)
            self.heads.extend([head, tail])
            self.left.extend([beyond if most is None else most - told, told])

    def load(self):
        """The load as it is now."""
        return tuple(self.left[1::2])

    def gone_from(self, start):
        """How much goes by the load from a node to which nothing comes."""
        return sum([self.left[half ^ 1] for half in self.leaving[start]])

    def met_from(self, start):
        """By node whether a walk leads there from the start, or it is the start."""
        met = [False] * len(self.leaving)
        met[start] = True
        rest = [start]
        while rest:
            node = rest.pop()
            for half in self.leaving[node]:
                head = self.heads[half]
                if not met[head] and self.left[half] > 0:
                    met[head] = True
                    rest.append(head)
        return met

    def reached(self, start):
        """Ascending the nodes to which walks lead, and the start."""
        return tuple([node for node, is_met in enumerate(self.met_from(start)) if is_met])

    def levels(self, goal, start):
        """By node how many steps a shortest walk to the goal has, -1 if none leads there.

        Nodes are told only until the start is met; None for a start tells all.
        """
        level = [-1] * len(self.leaving)
        level[goal] = 0
        queue = [goal]
        at = 0
        while at < len(queue) and (start is None or level[start] < 0):
            node = queue[at]
            at += 1
            for half in self.leaving[node]:
                tail = self.heads[half]
                if level[tail] < 0 and self.left[half ^ 1] > 0:
                    level[tail] = level[node] + 1
                    queue.append(tail)
        return level

    def reaching(self, goal):
        """Ascending the nodes from which walks lead to the goal, and the goal."""
        return tuple([node for node, level in enumerate(self.levels(goal, None)) if level >= 0])

    def walk(self, start, goal):
        """The halves of a shortest walk to a goal to which one leads."""
        level = self.levels(goal, start)
        turn = [0] * len(level)
        row = []
        node = start
        while node != goal:
            row.append(self.next_half(node, level, turn))
            node = self.heads[row[-1]]
        return row

    def next_half(self, node, level, turn):
        """The next half out of a node that can be gone and leads to the level below, or None.

        `turn` tells by node how many of its halves can be gone no more.
        """
        halves = self.leaving[node]
        below = level[node] - 1
        for at in range(turn[node], len(halves)):
            half = halves[at]
            if self.left[half] > 0 and level[self.heads[half]] == below:
                turn[node] = at
                return half
        turn[node] = len(halves)
        return None

    def go_all(self, start, goal):
        """Goes on along walks from the start to the goal until there is none."""
        level = self.levels(goal, start)
        while level[start] >= 0:
            self.go_levels(start, goal, level)
            level = self.levels(goal, start)

    def go_levels(self, start, goal, level):
        """Goes on along walks that come to a lower level by each step until there is none."""
        turn = [0] * len(level)
        row = []
        node = start
        while True:
            if node == goal:
                node = self.go_row(row)
            half = self.next_half(node, level, turn)
            if half is not None:
                row.append(half)
                node = self.heads[half]
            elif row:
                node = self.heads[row.pop() ^ 1]
                turn[node] += 1
            else:
                return

    def go_row(self, row):
        """Goes a walk as often as can be; cuts it where it can be gone no more, and returns that node."""
        many = min([self.left[half] for half in row])
        cut = 0
        for at in range(len(row) - 1, -1, -1):
            self.left[row[at]] -= many
            self.left[row[at] ^ 1] += many
            if self.left[row[at]] == 0:
                cut = at
        node = self.heads[row[cut] ^ 1]
        del row[cut:]
        return node


def unbounded(net, start):
    """By node whether arcs without a bound alone lead there from the start."""
    many, arcs = net
    bare = tuple([(tail, head, 1 if most is None else 0) for tail, head, most in arcs])
    return Residue((many, bare), [0] * len(arcs)).met_from(start)
