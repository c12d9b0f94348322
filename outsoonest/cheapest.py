"""Cheapest flows: a net whose arcs have prices, led on one by one along cheapest walks."""


class Cheapest:
    """A net with prices from 0 on, under a load that is changed by going on.

    Arc k, (tail, head, most, price), is gone forth by half 2k and back by half
    2k + 1. `height` has by node a number such that no half that can be gone
    leads up by more than its price: so a walk that keeps to that is a cheapest one.
    Of an arc without a bound more can be had than `bound`, the most that
    will be gone on with in all.
    """

    def __init__(self, many, arcs, bound):
        self.heads = []
        self.left = []
        self.price = []
        self.leaving = [[] for _ in range(many)]
        self.height = [0] * many
        for tail, head, most, price in arcs:
            self.leaving[tail].append(len(self.heads))
            self.leaving[head].append(len(self.heads) + 1)
            self.heads.extend([head, tail])
            self.left.extend([bound + 1 if most is None else most, 0])
            self.price.extend([price, -price])

    def load(self):
        """The load as it is now."""
        return tuple(self.left[1::2])

    def go_cheapest(self, start, goal):
        """Goes once along a cheapest walk from the start to the goal; one leads there."""
        away, by = self.measured(start, goal)
        most = away[goal]
        self.height = [height + (most if far is None else min(far, most)) for height, far in zip(self.height, away)]
        node = goal
        while node != start:
            self.left[by[node]] -= 1
            self.left[by[node] ^ 1] += 1
            node = self.heads[by[node] ^ 1]

    def measured(self, start, goal):
        """By node how far it is from the start above its height, as far as the goal, and the half that leads there."""
        away = [None] * len(self.leaving)
        by = [None] * len(self.leaving)
        away[start] = 0
        # By distance the nodes that are so far, or were when they were met.
        rings = [[start]]
        far = 0
        while far < len(rings) and (away[goal] is None or away[goal] > far):
            if rings[far]:
                self.go_from(rings[far].pop(), far, away, by, rings)
            else:
                far += 1
        return away, by

    def go_from(self, node, far, away, by, rings):
        """Tells the nodes to which halves out of one that is so far lead nearer than was known."""
        if away[node] < far:
            return
        for half in self.leaving[node]:
            head = self.heads[half]
            if self.left[half] > 0:
                there = far + self.price[half] + self.height[node] - self.height[head]
                if away[head] is None or there < away[head]:
                    away[head] = there
                    by[head] = half
                    while len(rings) <= there:
                        rings.append([])
                    rings[there].append(head)
