"""Tasks, places, arcs, and flows of a task: [15], [16], [19]."""

import itertools
import random
import unittest

from outsoonest.errors import Refused
from outsoonest.unrolled import (arcs_of, begins, check_task, flow_holds, flow_out, goals, nodes_of, part_of,
                                 with_people)
from tests.draws import draw_task, smoky
from tests.helping import STRANGE, Case, deep

HOUSE = ((0, 0, 1), ((0, 1, 1, 2, ()), (1, 2, 1, 1, (2,))), (3, None, None))
PEOPLE = ((0, 0, 0), (0, 0, 1), (1, 1, 0))
TASK = (HOUSE, PEOPLE, 0, 4)

NO_TASKS = STRANGE + (
    (), TASK[:3], TASK + (0,), (None,) + TASK[1:], (((0, 0, 2),) + HOUSE[1:],) + TASK[1:], (HOUSE, None, 0, 4),
    (HOUSE, ((3, 0, 0),), 0, 4), (HOUSE, ((0, 0),), 0, 4), (HOUSE, ((0, 0, 0),) * 61, 0, 4), (HOUSE, PEOPLE, 1, 4),
    (HOUSE, (), 5, 4), (HOUSE, (), 0, 60), (HOUSE, (), -1, 4), (HOUSE, (), 60, 60), (HOUSE, (), False, 4),
    (HOUSE, (), 0, True), (HOUSE, (), None, 4), (HOUSE, (), 0, None), (HOUSE, (), "0", 4), (HOUSE, (), 0, (4,)),
    (HOUSE, ((0, 1, 0), (0, 2, 0)), 2, 4), (deep(50), (), 0, 0))

CALLS = ((with_people, (None,)), (part_of, (None,)), (nodes_of, ()), (arcs_of, ()), (begins, ()), (goals, ()),
         (flow_holds, (None,)), (flow_out, (None,)))


class Tasks(Case):
    def test_check_task(self):
        for task in (TASK, (HOUSE, (), 0, 0), (HOUSE, (), 59, 59), (HOUSE, ((0, 59, 0),) * 60, 0, 59),
                     (HOUSE, ((0, 4, 0), (2, 9, 9)), 4, 4), (((1,), (), (None,)), ((0, 3, 1),), 3, 5)):
            self.gives(task, check_task, task)

    def test_no_tasks(self):
        for value in NO_TASKS:
            self.told(Refused, value, check_task, value)
            for call, more in CALLS:
                self.told(Refused, value, call, value, *more)

    def test_with_people(self):
        for people in ((), ((2, 59, 9),), ((0, 0, 0),) * 60):
            self.gives((HOUSE, people, 0, 4), with_people, TASK, people)
        for value in STRANGE[:11] + (((3, 0, 0),), ((0, 0),), ((0, 0, 0),) * 61, [[True, 0, 0]]):
            self.told(Refused, (HOUSE, value, 0, 4), with_people, TASK, value)
        self.told(Refused, (HOUSE, ((0, 1, 0),), 2, 4), with_people, (HOUSE, (), 2, 4), ((0, 1, 0),))

    def test_part_of(self):
        for lot in ((), (0,), (2,), (0, 2), (0, 1, 2)):
            self.gives((HOUSE, tuple([PEOPLE[at] for at in lot]), 0, 4), part_of, TASK, lot)
        self.refuses(Refused, part_of, (TASK, ()), 1,
                     STRANGE + ((3,), (1, 0), (1, 1), (True,), (0, None), (-1,), 0, ((0,),)))


class Places(Case):
    def test_small(self):
        house = ((0, 0, 1), ((0, 1, 1, 2, ()), (1, 2, 2, 1, (1,)), (0, 2, 1, 0, ()), (0, 2, 3, 9, ())), (2, None, None))
        task = (house, ((0, 0, 0), (0, 2, 0), (1, 1, 0), (2, 3, 0), (1, 4, 0)), 0, 3)
        nodes = ((0, 0), (1, 0), (2, 0), (0, 1), (1, 1), (2, 1), (1, 2), (2, 2), (1, 3), (2, 3))
        self.gives(nodes, nodes_of, task)
        self.gives((("stand", 0, 0, 0, 3, None), ("stand", 1, 0, 1, 4, None), ("go", 0, 0, 0, 4, 2), ("go", 1, 0, 1, 7, 1),
                    ("go", 3, 0, 0, 9, 9), ("stand", 1, 1, 4, 6, None), ("go", 0, 1, 3, 6, 2),
                    ("stand", 1, 2, 6, 8, None)), arcs_of, task)
        self.gives((0, None, 4, 9, None), begins, task)
        self.gives(((2,), (5,), (7,), (9,)), goals, task)

    def test_now_is_the_end(self):
        self.gives(((0, 4), (1, 4), (2, 4)), nodes_of, (((0, 0, 1), HOUSE[1], (5, None, None)), (), 4, 4))
        self.gives((), arcs_of, (HOUSE, (), 4, 4))
        self.gives(((1,),), goals, (HOUSE, (), 4, 4))
        self.gives((), begins, (HOUSE, (), 4, 4))
        self.gives(((),), goals, (((0,), (), (0,)), (), 0, 0))
        self.gives((), nodes_of, (((0,), (), (0,)), (), 0, 0))
        self.gives((None,), begins, (((0,), (), (0,)), ((0, 0, 0),), 0, 0))

    def test_drawn(self):
        draw = random.Random(21)
        for _ in range(150):
            task = draw_task(draw)
            house, people, now, end = task
            nodes = nodes_of(task)
            all_places = [(room, beat) for beat in range(now, end + 1) for room in range(len(house[0]))]
            self.gives(tuple([place for place in all_places if not smoky(house, *place)]), nodes_of, task)
            arcs = []
            for beat in range(now, end + 1):
                for room, kind in enumerate(house[0]):
                    if kind == 0 and (room, beat) in nodes and (room, beat + 1) in nodes:
                        arcs.append(("stand", room, beat, nodes.index((room, beat)), nodes.index((room, beat + 1)), None))
                for at, (tail, head, length, width, shut) in enumerate(house[1]):
                    if width and beat not in shut and (tail, beat) in nodes and (head, beat + length) in nodes:
                        arcs.append(("go", at, beat, nodes.index((tail, beat)), nodes.index((head, beat + length)), width))
            self.gives(tuple(arcs), arcs_of, task)
            self.gives(tuple([nodes.index(who[:2]) if who[:2] in nodes else None for who in people]), begins, task)
            self.gives(tuple([tuple([nodes.index((room, beat)) for room, kind in enumerate(house[0]) if kind])
                              for beat in range(now, end + 1)]), goals, task)

    def test_greatest(self):
        rows = tuple([(at % 18, 18 + at % 2, 1 + at % 9, 9, (at % 60,)) for at in range(60)])
        task = ((0,) * 18 + (1, 1), rows, (None,) * 20), ((0, 0, 0),) * 60, 0, 59
        self.assertEqual(len(nodes_of(task)), 1200)
        self.assertEqual([len(doors) for doors in goals(task)], [2] * 60)
        self.assertEqual(begins(task), (0,) * 60)
        flow = (0,) * len(arcs_of(task))
        self.assertEqual(flow_out(task, flow), (0,) * 60)


def plain_flow(task, flow):
    """Whether numbers by arc are a flow, by the words of [19]."""
    places, starts = nodes_of(task), begins(task)
    for at, (room, _) in enumerate(places):
        out = sum(many for arc, many in zip(arcs_of(task), flow) if arc[3] == at)
        back = sum(many for arc, many in zip(arcs_of(task), flow) if arc[4] == at)
        if task[0][0][room] == 0 and not 0 <= out - back <= starts.count(at):
            return False
    return all(arc[5] is None or many <= arc[5] for arc, many in zip(arcs_of(task), flow))


class Flows(Case):
    def test_flow_holds(self):
        arcs = arcs_of(TASK)
        one = [0] * len(arcs)
        for arc in (("go", 0, 0), ("go", 1, 1)):
            one[[told[:3] for told in arcs].index(arc)] = 1
        self.gives(True, flow_holds, TASK, tuple(one))
        self.gives((0, 0, 1, 1, 1), flow_out, TASK, tuple(one))
        self.gives(True, flow_holds, TASK, (0,) * len(arcs))
        for value in STRANGE + (one + [0], one[1:], [None] + one[1:], [False] + one[1:], [-1] + one[1:], ["0"] + one[1:],
                                [1] + one[1:], [many * 2 for many in one]):
            self.gives(False, flow_holds, TASK, value)
            self.told(Refused, value, flow_out, TASK, value)

    def test_who_begins_in_a_way_out(self):
        house = ((0, 1), ((0, 1, 1, 1, ()),), (None, None))
        task = (house, ((1, 0, 0), (1, 2, 0), (1, 5, 0), (0, 0, 0)), 0, 3)
        self.gives((1, 1, 2, 2), flow_out, task, (0,) * 6)
        self.gives((1, 2, 3, 3), flow_out, task, (0, 1, 0, 0, 0, 0))
        self.gives((1, 1, 3, 3), flow_out, task, (1, 0, 0, 1, 0, 0))

    def test_all_numbers(self):
        draw = random.Random(22)
        many = 0
        while many < 40:
            task = draw_task(draw, people=2, beats=3, rooms=3, passages=3)
            arcs = arcs_of(task)
            if len(arcs) > 7:
                continue
            many += 1
            for flow in itertools.product(range(3), repeat=len(arcs)):
                holds = plain_flow(task, flow)
                self.assertIs(flow_holds(task, flow), holds)
                if holds:
                    self.assertEqual(flow_out(task, flow), self.plain_out(task, flow))
                elif draw.random() < 0.02:
                    self.told(Refused, flow, flow_out, task, flow)

    def plain_out(self, task, flow):
        house, people, now, end = task
        places = nodes_of(task)
        return tuple([len([who for who in people if house[0][who[0]] and who[1] <= beat])
                      + sum(many for arc, many in zip(arcs_of(task), flow)
                            if house[0][places[arc[4]][0]] and places[arc[4]][1] <= beat)
                      for beat in range(now, end + 1)])


if __name__ == "__main__":
    unittest.main()
