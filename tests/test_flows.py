"""Nets, cuts, walks, greatest flows, and by what two flows are unlike: [20] to [24]."""

import itertools
import random
import time
import unittest

from outsoonest.errors import Refused
from outsoonest.flows import (check_net, cut_worth, cuts, flow_fits, greatest, led_on, no_flow, reached, reaching, spare,
                              turned_by, unlike, walk, walk_holds, worth)
from tests.draws import all_loads, all_lots, balance, bears, draw_load, draw_net
from tests.helping import STRANGE, Case, deep

NET = (4, ((0, 1, 2), (0, 2, 1), (1, 2, None), (1, 3, 1), (2, 3, 2)))
FLOW = (2, 0, 1, 1, 1)
LOAD = (2, 0, 2, 0, 2)
BARE = (3, ((0, 1, None), (1, 2, None), (2, 0, 3), (1, 1, None)))

NO_NETS = STRANGE + ((), (1,), (1, (), 0), (0, ()), (2001, ()), (True, ()), (None, ()), ("1", ()), (1, None), (1, 0), (1, "0"),
                     (1, (None,)), (1, ((0, 0),)), (1, ((0, 0, 0, 0),)), (1, ((0, 1, 0),)), (1, ((1, 0, 0),)),
                     (1, ((-1, 0, 0),)), (1, ((0, -1, 0),)), (1, ((0, 0, -1),)), (1, ((0, 0, True),)), (2, ((True, 0, 1),)),
                     (2, ((0, False, 1),)), (1, ((0, 0, "1"),)), (1, ((0, 0, 1), (0, 0))), (1, deep(49)))
NO_NODES = STRANGE + (4, 2000, (0,), "1")
NO_LOADS = STRANGE + ((), (0,) * 4, (0,) * 6, (3, 0, 0, 0, 0), (0, 0, -1, 0, 0), (0, 0, True, 0, 0), (0, 0, None, 0, 0),
                      (0, 0, "0", 0, 0), (0, 0, (0,), 0, 0), (0, 2, 0, 0, 0))
NO_FLOWS = NO_LOADS + ((1, 0, 0, 0, 0), (2, 0, 2, 0, 1), (0, 0, 0, 1, 0), (0, 0, 10 ** 9, 0, 0))
NO_STEPS = STRANGE + (((0,),), ((0, 1, 1),), ((5, 1),), ((-1, 1),), ((0, 0),), ((0, 2),), ((0, True),), ((False, 1),),
                      ((0, "1"),), ((0, None),), (None,), ((0, 1), (1, 1)), ((0, 1), (2, -1)), ((0, 1), (0, -1)),
                      ((2, 1), (2, -1)), "01", (0, 1))


class Refusing(Case):
    def test_nets(self):
        for net in (NET, BARE, (1, ()), (1, ((0, 0, 0),)), (2000, ((0, 1999, 10 ** 9), (1999, 0, None)))):
            self.gives(net, check_net, net)
        for value in NO_NETS:
            for call, more in ((check_net, 0), (no_flow, 0), (flow_fits, 3), (worth, 3), (cut_worth, 1), (walk, 3),
                               (walk_holds, 4), (reached, 2), (reaching, 2), (spare, 2), (turned_by, 3), (led_on, 3),
                               (greatest, 2), (cuts, 2), (unlike, 4)):
                self.told(Refused, value, call, value, *[None] * more)

    def test_starts_and_goals(self):
        for call, args in ((flow_fits, (NET, 0, -5, None)), (worth, (NET, 0, -5, None)), (led_on, (NET, 0, -5, None)),
                           (greatest, (NET, 0, -5)), (cuts, (NET, 0, -5)), (unlike, (NET, 0, -5, None, None))):
            self.refuses(Refused, call, args, 1, NO_NODES)
            self.refuses(Refused, call, args, 2, NO_NODES + (0,))
        self.refuses(Refused, walk, (NET, LOAD, 0, None), 2, NO_NODES)
        self.refuses(Refused, reached, (NET, LOAD, 0), 2, NO_NODES)
        self.refuses(Refused, reaching, (NET, LOAD, 0), 2, NO_NODES)
        self.refuses(Refused, walk_holds, (NET, LOAD, 0, None, None), 2, NO_NODES)
        self.refuses(Refused, walk_holds, (NET, LOAD, 0, 3, None), 3, NO_NODES + (0,))

    def test_ends(self):
        self.refuses(Refused, walk, (NET, LOAD, 0, ()), 3,
                     STRANGE + ((0,), (1, 1), (1, 0), (4,), (1, 2, -1), (True,), (1, None), ((1,),), 1, "1"))

    def test_loads_and_flows(self):
        for call, more in ((walk, 2), (reached, 1), (reaching, 1), (walk_holds, 3), (spare, 1), (turned_by, 2)):
            self.refuses(Refused, call, (NET, None) + (None,) * more, 1, NO_LOADS)
        for call, args in ((worth, (NET, 0, 3, FLOW)), (led_on, (NET, 0, 3, FLOW)), (unlike, (NET, 0, 3, FLOW, None))):
            self.refuses(Refused, call, args, 3, NO_FLOWS)
        self.refuses(Refused, unlike, (NET, 0, 3, FLOW, FLOW), 4, NO_FLOWS)
        for value in NO_FLOWS:
            self.gives(False, flow_fits, NET, 0, 3, value)

    def test_lots_steps_and_many(self):
        self.refuses(Refused, cut_worth, (NET, ()), 1, STRANGE + ((4,), (1, 0), (1, 1), (True,), (None,), 0, "0", (-1,)))
        self.refuses(Refused, spare, (NET, LOAD, ()), 2, NO_STEPS)
        self.refuses(Refused, turned_by, (NET, LOAD, (), None), 2, NO_STEPS)
        for steps, most in (((), None), (((2, 1),), None), (((2, -1), (3, 1)), 1), (((1, 1),), 1), (((0, 1),), 0)):
            bad = (None, True, False, -1, "1", (1,)) + (() if most is None else (most + 1, 10 ** 9))
            self.refuses(Refused, turned_by, (NET, LOAD, steps, 0), 3, bad)


class Flows(Case):
    def test_no_flow(self):
        self.gives((0,) * 5, no_flow, NET)
        self.gives((), no_flow, (1, ()))

    def test_small(self):
        self.gives(True, flow_fits, NET, 0, 3, FLOW)
        self.gives(2, worth, NET, 0, 3, FLOW)
        self.gives(-2, worth, NET, 3, 0, FLOW)
        self.gives(True, flow_fits, BARE, 0, 2, (10 ** 9, 10 ** 9, 3, 10 ** 9))
        self.gives(10 ** 9 - 3, worth, BARE, 0, 2, (10 ** 9, 10 ** 9, 3, 10 ** 9))

    def test_all_loads(self):
        draw = random.Random(41)
        for _ in range(80):
            net = draw_net(draw, nodes=4, arcs=5, most=2)
            start, goal = draw.sample(range(net[0]), 2)
            for load in all_loads(net, 2):
                more = balance(net, load)
                fits = all(more[node] == 0 for node in range(net[0]) if node not in (start, goal))
                self.assertIs(flow_fits(net, start, goal, load), fits)
                if fits:
                    self.gives(more[goal], worth, net, start, goal, load)
                    for lot in all_lots(range(net[0])):
                        if start in lot and goal not in lot and bears(net, lot) is not None:
                            self.assertLessEqual(more[goal], bears(net, lot))
                elif draw.random() < 0.05:
                    self.told(Refused, load, worth, net, start, goal, load)


class Cuts(Case):
    def test_cut_worth(self):
        for lot in all_lots(range(4)):
            self.gives(bears(NET, lot), cut_worth, NET, lot)
        self.gives(None, cut_worth, NET, (0, 1))
        self.gives(0, cut_worth, NET, ())
        self.gives(0, cut_worth, BARE, (0, 1, 2))
        self.gives(3, cut_worth, BARE, (2,))


def plain_steps(net, load):
    """The steps that can be gone, each with where it begins and ends."""
    rows = []
    for arc, (tail, head, most) in enumerate(net[1]):
        if most is None or load[arc] < most:
            rows.append(((arc, 1), tail, head))
        if load[arc] > 0:
            rows.append(((arc, -1), head, tail))
    return rows


def all_walks(net, load, start, goal):
    steps = plain_steps(net, load)

    def go(node, met):
        if node == goal:
            yield ()
            return
        for step, tail, head in steps:
            if tail == node and head not in met:
                for rest in go(head, met + (head,)):
                    yield (step,) + rest

    return list(go(start, (start,)))


class Walks(Case):
    def test_small(self):
        self.gives(((0, 1),), walk, (2, ((0, 1, 1),)), (0,), 0, (1,))
        self.gives(None, walk, (2, ((0, 1, 1),)), (1,), 0, (1,))
        self.gives(((0, -1),), walk, (2, ((0, 1, 1),)), (1,), 1, (0,))
        self.gives(None, walk, (2, ((0, 1, 0),)), (0,), 0, (1,))
        self.gives(None, walk, NET, LOAD, 2, ())
        self.gives(((0, 1),), walk, (2, ((0, 1, None),)), (10 ** 9,), 0, (1,))
        self.gives((0,), reached, (1, ((0, 0, None),)), (3,), 0)
        self.gives((0,), reaching, (1, ((0, 0, None),)), (3,), 0)

    def test_all_walks(self):
        draw = random.Random(42)
        for _ in range(150):
            net = draw_net(draw, nodes=5, arcs=7)
            load = draw_load(draw, net)
            start = draw.randrange(net[0])
            walks = {goal: all_walks(net, load, start, goal) for goal in range(net[0]) if goal != start}
            self.gives(tuple([goal for goal in range(net[0]) if goal == start or walks[goal]]), reached, net, load, start)
            for goal, rows in walks.items():
                self.assertEqual(goal in reached(net, load, start), start in reaching(net, load, goal))
                self.assertEqual(walk(net, load, start, (goal,)) is None, not rows)
                for row in rows:
                    self.gives(True, walk_holds, net, load, start, goal, row)
            ends = draw.sample(sorted(walks), draw.randint(0, len(walks)))
            first = next((goal for goal in ends if walks[goal]), None)
            told = walk(net, load, start, ends)
            self.gives(told, walk, net, load, start, tuple(ends))
            self.assertTrue(told is None if first is None else told in walks[first])
            self.assertIs(type(told), type(None) if first is None else tuple)

    def test_reaching(self):
        draw = random.Random(43)
        for _ in range(100):
            net = draw_net(draw)
            load = draw_load(draw, net)
            for goal in range(net[0]):
                self.gives(tuple([node for node in range(net[0]) if goal in reached(net, load, node)]),
                           reaching, net, load, goal)

    def test_all_rows_of_steps(self):
        draw = random.Random(44)
        for _ in range(25):
            net = draw_net(draw, nodes=4, arcs=4)
            load = draw_load(draw, net)
            start, goal = draw.sample(range(net[0]), 2)
            walks = all_walks(net, load, start, goal)
            steps = [(arc, way) for arc in range(len(net[1])) for way in (1, -1)]
            for many in range(4):
                for row in itertools.product(steps, repeat=many):
                    self.assertIs(walk_holds(net, load, start, goal, row), row in walks)

    def test_no_walks(self):
        for value in NO_STEPS + ((), ((0, 1),), ((1, 1), (4, 1)), ((1, 1), (2, -1)), ((1, 1), (2, -1), (0, -1), (1, 1))):
            self.gives(False, walk_holds, NET, LOAD, 0, 3, value)
        self.gives(True, walk_holds, NET, LOAD, 0, 3, ((1, 1), (2, -1), (3, 1)))
        self.gives(False, walk_holds, (2, ((0, 0, 5), (0, 1, 5))), (1, 1), 0, 1, ((0, 1), (1, 1)))
        self.gives(False, walk_holds, (2, ((1, 1, 5), (0, 1, 5))), (1, 1), 0, 1, ((1, 1), (0, 1)))
        self.gives(False, walk_holds, (3, ((0, 1, 5), (1, 2, 5), (2, 1, 5))), (0, 0, 0), 0, 1, ((0, 1), (1, 1), (2, 1)))

    def test_spare_and_turned_by(self):
        self.gives(None, spare, NET, LOAD, ())
        self.gives(None, spare, NET, LOAD, ((2, 1),))
        self.gives(2, spare, NET, LOAD, ((2, -1),))
        self.gives(1, spare, NET, LOAD, ((2, -1), (3, 1)))
        self.gives(0, spare, NET, LOAD, ((0, 1),))
        self.gives(1, spare, NET, LOAD, ((1, 1), (2, -1), (0, -1)))
        self.gives((1, 1, 1, 0, 2), turned_by, NET, LOAD, ((1, 1), (2, -1), (0, -1)), 1)
        self.gives(LOAD, turned_by, NET, LOAD, (), 10 ** 9)
        self.gives(LOAD, turned_by, NET, LOAD, ((0, 1),), 0)
        self.gives((2, 0, 2 + 10 ** 9, 0, 2), turned_by, NET, LOAD, ((2, 1),), 10 ** 9)
        self.gives(3, spare, (1, ((0, 0, 5),)), (2,), ((0, 1),))

    def test_turned(self):
        draw = random.Random(45)
        for _ in range(150):
            net = draw_net(draw)
            load = draw_load(draw, net)
            start, goal = draw.sample(range(net[0]), 2)
            for row in all_walks(net, load, start, goal)[:10]:
                many = spare(net, load, row)
                told = [net[1][arc][2] - load[arc] if way == 1 else load[arc] for arc, way in row
                        if way == -1 or net[1][arc][2] is not None]
                self.gives(min(told, default=None), spare, net, load, row)
                for often in range(4 if many is None else many + 1):
                    more = dict(row)
                    self.gives(tuple([had + often * more.get(arc, 0) for arc, had in enumerate(load)]),
                               turned_by, net, load, row, often)


class Greatest(Case):
    def test_small(self):
        self.gives((5,), greatest, (2, ((0, 1, 5),)), 0, 1)
        self.gives((0,), greatest, (2, ((0, 1, 5),)), 1, 0)
        self.gives((), greatest, (2, ()), 0, 1)
        self.gives(None, greatest, BARE, 0, 2)
        self.gives(None, led_on, BARE, 0, 2, (0, 0, 0, 7))
        self.gives(None, cuts, BARE, 0, 2)
        self.gives(((2,), (1, 2)), cuts, BARE, 2, 0)
        self.gives((10 ** 9, 10 ** 9), greatest, (3, ((0, 1, 10 ** 9), (1, 2, None))), 0, 2)
        self.gives(((0,), (0,)), cuts, (3, ((0, 1, 10 ** 9), (1, 2, None))), 0, 2)
        self.gives(((0,), (0, 2)), cuts, (3, ((0, 1, 1), (2, 0, 1))), 0, 1)

    def test_drawn(self):
        draw = random.Random(46)
        for _ in range(300):
            net = draw_net(draw, nodes=5, arcs=8)
            start, goal = draw.sample(range(net[0]), 2)
            lots = [lot for lot in all_lots(range(net[0])) if start in lot and goal not in lot]
            told = [bears(net, lot) for lot in lots if bears(net, lot) is not None]
            flow, most = greatest(net, start, goal), min(told, default=None)
            self.gives(flow, greatest, net, start, goal)
            if most is None:
                self.assertIsNone(flow)
                self.gives(None, cuts, net, start, goal)
                continue
            self.assertTrue(flow_fits(net, start, goal, flow))
            self.assertEqual(worth(net, start, goal, flow), most)
            best = [set(lot) for lot in lots if bears(net, lot) == most]
            self.gives((tuple(sorted(set.intersection(*best))), tuple(sorted(set.union(*best)))), cuts, net, start, goal)
            self.assertEqual(cut_worth(net, reached(net, flow, start)), most)
            self.check_led_on(draw, net, start, goal, most)

    def check_led_on(self, draw, net, start, goal, most):
        flow = no_flow(net)
        for _ in range(6):
            row = walk(net, flow, *draw.choice(((start, (goal,)), (goal, (start,)), (start, (goal,)))))
            if row is not None:
                many = spare(net, flow, row)
                flow = turned_by(net, flow, row, draw.randint(0, 3 if many is None else many))
            self.assertTrue(flow_fits(net, start, goal, flow))
            self.assertEqual(worth(net, start, goal, flow) == most, walk(net, flow, start, (goal,)) is None)
            led = led_on(net, start, goal, flow)
            self.gives(led, led_on, net, start, goal, flow)
            self.assertTrue(flow_fits(net, start, goal, led))
            self.assertEqual(worth(net, start, goal, led), most)
            for (tail, head, _), had, has in zip(net[1], flow, led):
                self.assertTrue(has >= had or tail != start and head != goal)

    def test_all_loads(self):
        draw = random.Random(47)
        for _ in range(60):
            net = draw_net(draw, nodes=4, arcs=6, most=2, bare=0)
            start, goal = draw.sample(range(net[0]), 2)
            most = max(worth(net, start, goal, load) for load in all_loads(net) if flow_fits(net, start, goal, load))
            self.assertEqual(worth(net, start, goal, greatest(net, start, goal)), most)

    def test_all_flows_are_led_on(self):
        draw = random.Random(48)
        for _ in range(25):
            net = draw_net(draw, nodes=4, arcs=6, most=2, bare=0)
            start, goal = draw.sample(range(net[0]), 2)
            most = worth(net, start, goal, greatest(net, start, goal))
            for flow in all_loads(net):
                if flow_fits(net, start, goal, flow):
                    led = led_on(net, start, goal, flow)
                    self.assertEqual(worth(net, start, goal, led), most)
                    for (tail, head, _), had, has in zip(net[1], flow, led):
                        self.assertTrue(has >= had or tail != start and head != goal)


class Unlike(Case):
    def test_small(self):
        self.gives((), unlike, NET, 0, 3, FLOW, FLOW)
        self.gives(((3, ((0, 1),)),), unlike, (2, ((0, 1, 5),)), 0, 1, (1,), (4,))
        self.gives(((3, ((0, -1),)),), unlike, (2, ((0, 1, 5),)), 0, 1, (4,), (1,))
        self.gives(((2, ((0, 1),)),), unlike, (2, ((1, 1, 5),)), 0, 1, (0,), (2,))
        self.gives(((10 ** 9, ((0, 1),)),), unlike, (2, ((0, 1, None),)), 0, 1, (0,), (10 ** 9,))

    def check_unlike(self, draw, net, start, goal, flow, other):
        rows = unlike(net, start, goal, flow, other)
        self.gives(rows, unlike, net, start, goal, flow, other)
        self.assertLessEqual(len(rows), len(net[1]))
        more = worth(net, start, goal, other) - worth(net, start, goal, flow)
        ways, ends = 0, (start, goal) if more >= 0 else (goal, start)
        told = {}
        for many, steps in rows:
            self.assertGreater(many, 0)
            nodes = [net[1][steps[0][0]][0 if steps[0][1] == 1 else 1]]
            for arc, way in steps:
                self.assertEqual(told.setdefault(arc, way), way)
                self.assertEqual(net[1][arc][0 if way == 1 else 1], nodes[-1])
                nodes.append(net[1][arc][1 if way == 1 else 0])
            self.assertEqual(len(set(nodes[1:])), len(nodes) - 1)
            if nodes[0] != nodes[-1]:
                self.assertEqual((nodes[0], nodes[-1]), ends)
                ways += many
        self.assertEqual(ways, abs(more))
        if more == 0:
            self.assertFalse([steps for _, steps in rows if self.is_way(net, steps)])
        draw_rows = list(rows)
        draw.shuffle(draw_rows)
        load, part = flow, flow
        for many, steps in draw_rows:
            load = turned_by(net, load, steps, many)
            self.assertTrue(flow_fits(net, start, goal, load))
            part = turned_by(net, part, steps, draw.randint(0, many))
            self.assertTrue(flow_fits(net, start, goal, part))
        self.assertEqual(load, other)

    def is_way(self, net, steps):
        (first, way), (last, back) = steps[0], steps[-1]
        return net[1][first][0 if way == 1 else 1] != net[1][last][1 if back == 1 else 0]

    def test_all_flows(self):
        draw = random.Random(49)
        for _ in range(120):
            net = draw_net(draw, nodes=4, arcs=7, most=3)
            start, goal = draw.sample(range(net[0]), 2)
            flows = [load for load in itertools.islice(all_loads(net), 3000) if flow_fits(net, start, goal, load)]
            for _ in range(12):
                self.check_unlike(draw, net, start, goal, draw.choice(flows), draw.choice(flows))

    def test_way_that_is_no_whole_arc(self):
        # The way takes 3 of the 5 that go to the goal, the ring the other 2.
        net = (4, ((0, 1, 9), (1, 2, 9), (2, 3, 9), (3, 0, 9)))
        self.check_unlike(random.Random(1), net, 0, 2, (0, 0, 0, 0), (5, 5, 2, 2))
        self.check_unlike(random.Random(1), net, 0, 2, (5, 5, 2, 2), (0, 0, 0, 0))


def great_net(draw, nodes, arcs):
    return nodes, tuple([(draw.randrange(nodes), draw.randrange(nodes), draw.choice((1, 5, 10 ** 9, draw.randrange(10 ** 9))))
                         for _ in range(arcs)])


class Great(Case):
    def check_net(self, net, start, goal):
        began = time.monotonic()
        flow = greatest(net, start, goal)
        least, widest = cuts(net, start, goal)
        self.assertEqual(cut_worth(net, least), worth(net, start, goal, flow))
        self.assertEqual(cut_worth(net, widest), worth(net, start, goal, flow))
        nothing = no_flow(net)
        self.assertEqual(worth(net, start, goal, led_on(net, start, goal, nothing)), worth(net, start, goal, flow))
        for one, other in ((nothing, flow), (flow, nothing)):
            rows = unlike(net, start, goal, one, other)
            self.assertLessEqual(len(rows), len(net[1]))
        self.assertEqual(reached(net, flow, start), least)
        self.assertEqual(len(reaching(net, flow, goal)), net[0] - len(widest))
        self.assertIsNone(walk(net, flow, start, (goal,)))
        self.assertLess(time.monotonic() - began, 60)

    def test_drawn(self):
        draw = random.Random(50)
        self.check_net(great_net(draw, 2000, 8000), 0, 1999)
        self.check_net(great_net(draw, 200, 8000), 0, 199)

    def test_long(self):
        draw = random.Random(51)
        arcs = [(at, at + 1, 10 ** 9) for at in range(1997)]
        arcs += [(1998, draw.randrange(1998), draw.randrange(10 ** 6)) for _ in range(2000)]
        arcs += [(draw.randrange(1998), 1999, draw.randrange(10 ** 6)) for _ in range(2000)]
        arcs += [(at + 1, at, draw.randrange(10 ** 6)) for at in range(1997)]
        self.check_net((2000, tuple(arcs)), 1998, 1999)


if __name__ == "__main__":
    unittest.main()
