"""Rows of ends, all beginnings at once, a house's net, and out at every beat: [25] to [28]."""

import itertools
import random
import time
import unittest

from outsoonest.errors import Refused
from outsoonest.flows import cut_worth, greatest, worth
from outsoonest.houses import ways_out
from outsoonest.people import in_order
from outsoonest.runs import out_by, outs, run_flow, run_holds
from outsoonest.soonest import (brought, ends_fit, goal_net, most_to, soonest, soonest_flow, soonest_run, soonest_to,
                                walls, walls_of)
from outsoonest.unrolled import arcs_of, begins, flow_holds, flow_out, goals, nodes_of, part_of, with_people
from tests.draws import all_loads, all_lots, all_runs, balance, bears, draw_house, draw_load, draw_net, draw_task, out_numbers
from tests.helping import STRANGE, Case
from tests.test_flows import NO_LOADS, NO_NETS, NO_NODES
from tests.test_unrolled import NO_TASKS, TASK

NET = (4, ((0, 1, 2), (1, 2, 1), (1, 3, None), (0, 3, 1)))
NO_ENDS = STRANGE + ((0,), (1, 1), (1, 0), (4,), (1, 2, -1), (True,), (1, None), ((1,),), 1, "1")


class Refusing(Case):
    def test_nets(self):
        for call, more in ((ends_fit, (None,)), (brought, (None,)), (most_to, ()), (soonest_to, ()), (walls, ())):
            for value in NO_NETS:
                self.told(Refused, value, call, value, None, None, *more)
            self.refuses(Refused, call, (NET, 0, None) + more, 1, NO_NODES)
            self.refuses(Refused, call, (NET, 0, ()) + more, 2, NO_ENDS)

    def test_flows(self):
        bad = tuple([value for value in NO_LOADS if value != (0,) * 4])
        for value in bad + ((1, 0, 0, 0), (0, 1, 0, 0), (3, 0, 3, 0), (0, 0, 0, 2), (1, 1, 0, True)):
            self.gives(False, ends_fit, NET, 0, (2, 3), value)
            self.told(Refused, value, brought, NET, 0, (2, 3), value)

    def test_tasks(self):
        for value in NO_TASKS:
            for call in (goal_net, soonest, soonest_flow, soonest_run, walls_of):
                self.told(Refused, value, call, value)


class Ends(Case):
    def test_small(self):
        self.gives(True, ends_fit, NET, 0, (2, 3), (2, 1, 1, 1))
        self.gives((1, 2), brought, NET, 0, (2, 3), (2, 1, 1, 1))
        self.gives((2, 1), brought, NET, 0, (3, 2), (2, 1, 1, 1))
        self.gives(False, ends_fit, NET, 0, (2,), (2, 1, 1, 1))
        self.gives(True, ends_fit, NET, 0, (), (0, 0, 0, 0))
        self.gives((), brought, NET, 0, (), (0, 0, 0, 0))
        self.gives(False, ends_fit, NET, 1, (0,), (1, 0, 0, 0))
        self.gives(True, ends_fit, (2, ((0, 1, 1), (1, 0, 1), (1, 1, None))), 0, (), (1, 1, 10 ** 9))

    def test_all_loads(self):
        draw = random.Random(61)
        for _ in range(80):
            net = draw_net(draw, nodes=4, arcs=5, most=2)
            start, *others = draw.sample(range(net[0]), net[0])
            ends = tuple(others[:draw.randint(0, len(others))])
            for load in all_loads(net, 2):
                more = balance(net, load)
                fits = all(more[node] == 0 or node in ends and more[node] > 0 for node in range(net[0]) if node != start)
                self.assertIs(ends_fit(net, start, ends, load), fits)
                if fits:
                    self.gives(tuple([more[node] for node in ends]), brought, net, start, ends, load)
                elif draw.random() < 0.05:
                    self.told(Refused, load, brought, net, start, ends, load)


class Beginnings(Case):
    def test_small(self):
        self.gives((), most_to, NET, 0, ())
        self.gives((0, 0, 0, 0), soonest_to, NET, 0, ())
        self.gives((), walls, NET, 0, ())
        self.gives((1, 3), most_to, NET, 0, (2, 3))
        self.gives((3, 3), most_to, NET, 0, (3, 2))
        self.gives(((0, 1, 3), (0,)), walls, NET, 0, (2, 3))
        bare = (4, ((0, 1, 2), (0, 2, None), (2, 1, 1), (2, 3, None)))
        self.gives((3, None, None), most_to, bare, 0, (1, 3, 2))
        self.gives(None, soonest_to, bare, 0, (1, 3, 2))
        self.gives(((0, 2, 3), None, None), walls, bare, 0, (1, 3, 2))
        self.gives((None, None), most_to, bare, 0, (2, 1))
        self.gives((0,), most_to, (2, ()), 0, (1,))
        self.gives((2 * 10 ** 9,), most_to, (3, ((0, 1, 10 ** 9), (0, 2, 10 ** 9), (1, 2, None))), 0, (2,))
        self.gives((0,), most_to, (2, ((0, 0, None), (0, 1, 0))), 0, (1,))

    def test_drawn(self):
        draw = random.Random(62)
        for _ in range(300):
            net = draw_net(draw, nodes=5, arcs=8)
            start, *others = draw.sample(range(net[0]), net[0])
            self.check_ends(net, start, tuple(others[:draw.randint(0, len(others))]))

    def check_ends(self, net, start, ends):
        """All three against all lots: the most to some ends is the least that a lot without them is worth."""
        told, lots = [], []
        for at in range(len(ends)):
            kind = [lot for lot in all_lots(range(net[0])) if start in lot and not set(ends[:at + 1]) & set(lot)]
            least = min([bears(net, lot) for lot in kind if bears(net, lot) is not None], default=None)
            told.append(least)
            best = [set(lot) for lot in kind if bears(net, lot) == least]
            lots.append(None if least is None else tuple(sorted(set.intersection(*best))))
        self.gives(tuple(told), most_to, net, start, ends)
        self.gives(tuple(lots), walls, net, start, ends)
        flow = soonest_to(net, start, ends)
        self.gives(flow, soonest_to, net, start, ends)
        if None in told:
            self.assertIsNone(flow)
            return
        self.assertTrue(ends_fit(net, start, ends, flow))
        self.assertEqual(list(itertools.accumulate(brought(net, start, ends, flow))), told)
        for one, other in zip(lots, lots[1:]):
            self.assertLessEqual(set(other), set(one))
        for lot, many in zip(lots, told):
            self.assertEqual(cut_worth(net, lot), many)

    def test_all_loads(self):
        draw = random.Random(63)
        for _ in range(40):
            net = draw_net(draw, nodes=4, arcs=6, most=2, bare=0)
            start, *ends = draw.sample(range(net[0]), net[0])
            most = [0] * len(ends)
            for load in all_loads(net):
                if ends_fit(net, start, ends, load):
                    sums = itertools.accumulate(brought(net, start, ends, load))
                    most = [max(one, other) for one, other in zip(most, sums)]
            self.assertEqual(most_to(net, start, ends), tuple(most))

    def test_great(self):
        draw = random.Random(64)
        nodes = 2000
        net = nodes, tuple([(draw.randrange(nodes), draw.randrange(nodes), draw.choice((1, 5, 10 ** 9))) for _ in range(8000)])
        ends = tuple(draw.sample(range(1, nodes), 60))
        began = time.monotonic()
        told = most_to(net, 0, ends)
        flow = soonest_to(net, 0, ends)
        self.assertEqual(tuple(itertools.accumulate(brought(net, 0, ends, flow))), told)
        self.assertEqual(tuple([cut_worth(net, lot) for lot in walls(net, 0, ends)]), told)
        self.assertEqual(told[0], worth(net, 0, ends[0], greatest(net, 0, ends[0])))
        self.assertLess(time.monotonic() - began, 60)


class Net(Case):
    def test_small(self):
        house = ((0, 1), ((0, 1, 2, 1, ()),), (1, None))
        self.gives(((5, ((1, 3, None), (3, 4, None))), 2, (), (3,), 4), goal_net, (house, (), 0, 0))
        # Nodes: 0 (0, 0), 1 (1, 0), 2 (1, 1), 3 (1, 2), 4 to 6 people, 7 the start, 8 to 10 beats, 11 the last one.
        arcs = ((0, 3, 1), (7, 4, 1), (7, 5, 1), (7, 6, 1), (4, 0, 1), (5, 5, 0), (6, 2, 1),
                (1, 8, None), (2, 9, None), (3, 10, None), (8, 11, None), (9, 11, None), (10, 11, None))
        self.gives(((12, arcs), 7, (4, 5, 6), (8, 9, 10), 11), goal_net, (house, ((0, 0, 0), (0, 1, 0), (1, 1, 0)), 0, 2))

    def test_drawn(self):
        draw = random.Random(65)
        for _ in range(100):
            task = draw_task(draw)
            (many, arcs), start, persons, ends, last = goal_net(task)
            self.gives(((many, arcs), start, persons, ends, last), goal_net, task)
            house = len(nodes_of(task))
            beats = task[3] - task[2] + 1
            self.assertEqual(persons + (start,) + ends + (last,), tuple(range(house, many)))
            self.assertEqual((len(persons), len(ends)), (len(task[1]), beats))
            told = [arc[3:] for arc in arcs_of(task)] + [(start, person, 1) for person in persons]
            for person, place in zip(persons, begins(task)):
                told.append((person, person, 0) if place is None else (person, place, 1))
            told += [(door, end, None) for end, doors in zip(ends, goals(task)) for door in doors]
            self.assertEqual(arcs, tuple(told + [(end, last, None) for end in ends]))


class Soonest(Case):
    def check_numbers(self, task, told):
        self.gives(told, soonest, task)
        run, flow = soonest_run(task), soonest_flow(task)
        self.gives(run, soonest_run, task)
        self.gives(flow, soonest_flow, task)
        self.assertTrue(run_holds(task, run))
        self.assertEqual(out_by(task, run), told)
        self.assertTrue(flow_holds(task, flow))
        self.assertEqual(flow_out(task, flow), told)
        self.assertEqual(flow_out(task, run_flow(task, run)), told)

    def test_edges(self):
        house = ((0, 0, 1), ((0, 1, 1, 1, (1,)), (1, 2, 1, 2, ()), (0, 2, 1, 0, ()), (0, 2, 9, 9, ())), (5, 3, None))
        for people, now, end, told in (
                ((), 0, 4, (0,) * 5), (((0, 0, 0),), 0, 0, (0,)), (((2, 0, 0),), 0, 0, (1,)), (((0, 0, 0),), 0, 3, (0, 0, 1, 1)),
                (((0, 0, 0), (0, 0, 0)), 0, 4, (0, 0, 1, 1, 1)), (((0, 1, 0),), 1, 11, (0,) * 9 + (1, 1)),
                (((1, 1, 0), (1, 2, 0), (1, 3, 0)), 0, 4, (0, 0, 1, 2, 2)), (((0, 9, 0), (2, 3, 0)), 0, 4, (0, 0, 0, 1, 1)),
                (((2, 5, 0), (0, 5, 0), (0, 4, 9)), 4, 59, (0, 1) + (1,) * 7 + (2,) * 47),
                (((1, 0, 0),) * 60, 0, 4, (0, 2, 4, 6, 6))):
            self.check_numbers((house, people, now, end), told)

    def test_all_runs(self):
        draw = random.Random(66)
        many = 0
        while many < 150:
            task = draw_task(draw, people=3, beats=5, rooms=4)
            runs = all_runs(task, 4000)
            if runs is None:
                continue
            many += 1
            numbers = [out_numbers(task, run) for run in runs]
            self.check_numbers(task, tuple([max(row[at] for row in numbers) for at in range(task[3] - task[2] + 1)]))

    def test_earlier_ends_and_further_people(self):
        draw = random.Random(67)
        for _ in range(80):
            house = draw_house(draw, rooms=6, passages=9, beats=8)
            people = tuple([(draw.randrange(len(house[0])), draw.randrange(4), 0) for _ in range(8)])
            told = soonest((house, people, 0, 8))
            for end in range(9):
                self.assertEqual(soonest((house, people, 0, end)), told[:end + 1])
            for many in range(9):
                for one, other in zip(soonest((house, people[:many], 0, 8)), told):
                    self.assertLessEqual(one, other)

    def test_great(self):
        draw = random.Random(68)
        rows = [(at // 3, min(19, at // 3 + draw.randint(1, 3)), draw.randint(1, 3), draw.randint(1, 3),
                 tuple(sorted(draw.sample(range(60), 9)))) for at in range(54)] + [(17, 18, 1, 1, ())] * 6
        house = (0,) * 18 + (1, 1), tuple(rows), tuple(range(41, 59)) + (None, None)
        task = house, tuple([(draw.randrange(18), draw.randrange(9), draw.randrange(10)) for _ in range(60)]), 0, 59
        began = time.monotonic()
        told = soonest(task)
        self.check_numbers(task, told)
        self.assertGreater(told[-1], 20)
        self.check_lots(task, walls_of(task), told)
        self.assertLess(time.monotonic() - began, 60)

    def check_lots(self, task, lots, told):
        for at, lot in enumerate(lots):
            self.assertTrue(is_kind(task, at, lot))
            self.assertEqual(lot_sum(task, lot), told[at])
        for one, other in zip(lots, lots[1:]):
            self.assertLessEqual(set(other), set(one))


def is_kind(task, at, lot):
    """Whether a lot is of the kind of [28]: who stands on stays within, no way out so far is in it."""
    places, within = nodes_of(task), set(lot)
    stands = all(arc[4] in within for arc in arcs_of(task) if arc[0] == "stand" and arc[3] in within)
    return stands and not [node for node in lot
                           if task[0][0][places[node][0]] and places[node][1] <= task[2] + at]


def lot_sum(task, lot):
    within = set(lot)
    outside = len([place for place in begins(task) if place is not None and place not in within])
    return outside + sum(arc[5] for arc in arcs_of(task) if arc[0] == "go" and arc[3] in within and arc[4] not in within)


class Walls(Case):
    def test_all_lots(self):
        draw = random.Random(69)
        many = 0
        while many < 60:
            task = draw_task(draw, people=3, beats=4, rooms=3)
            places = nodes_of(task)
            if len(places) > 10:
                continue
            many += 1
            told, lots = soonest(task), walls_of(task)
            self.gives(lots, walls_of, task)
            for at, most in enumerate(told):
                kind = [lot for lot in all_lots(range(len(places))) if is_kind(task, at, lot)]
                sums = [lot_sum(task, lot) for lot in kind]
                self.assertEqual(min(sums), most)
                best = [set(lot) for lot, one in zip(kind, sums) if one == most]
                self.assertEqual(lots[at], tuple(sorted(set.intersection(*best))))
            for one, other in zip(lots, lots[1:]):
                self.assertLessEqual(set(other), set(one))

    def test_small(self):
        house = ((0, 1), ((0, 1, 2, 1, ()),), (None, None))
        task = (house, ((0, 0, 1), (0, 0, 1)), 0, 4)
        self.gives(((0, 2, 4, 5, 6, 7, 8, 9), (0, 2, 4, 5, 6, 7, 8, 9), (0, 2, 4, 6, 7, 8, 9), (), ()), walls_of, task)
        self.gives(((),), walls_of, (house, (), 0, 0))


if __name__ == "__main__":
    unittest.main()
