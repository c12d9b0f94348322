"""Both at once, swaps of persons, and how they are judged: [38] to [40]."""

import random
import time
import unittest

from outsoonest.errors import Refused
from outsoonest.joined import both, both_flow, both_holds, joined, people_of, swapped
from outsoonest.lots import can_be_out, first_out
from outsoonest.runs import flow_run, outs, run_flow
from outsoonest.soonest import soonest, soonest_flow
from outsoonest.unrolled import arcs_of, begins, flow_holds, flow_out, nodes_of, part_of
from tests.draws import (all_lots, draw_task, first_of_all, great_task, lots_out, most_by_beat, order_of, out_beats, small_task)
from tests.helping import STRANGE, Case
from tests.test_lots import FOUR, HOUSE, NO_LOTS
from tests.test_unrolled import NO_TASKS

TASK = FOUR[:3] + (3,)
ARCS = len(arcs_of(TASK))
FLOW = soonest_flow(TASK)
NO_FLOWS = STRANGE + ((), (0,) * (ARCS - 1), (0,) * (ARCS + 1), (9,) * ARCS, (1,) + (0,) * (ARCS - 1), (None,) * ARCS, (False,) * ARCS,
                      (0,) * (ARCS - 1) + (-1,), "0" * ARCS, 0)


class Refusing(Case):
    def test_tasks(self):
        for value in NO_TASKS:
            for call, more in ((both, ()), (both_flow, ()), (both_holds, (None, None)), (people_of, (None,)), (swapped, (None, None)),
                               (joined, ())):
                self.told(Refused, value, call, value, *more)

    def test_flows(self):
        self.refuses(Refused, people_of, (TASK, FLOW), 1, NO_FLOWS)
        self.refuses(Refused, swapped, (TASK, FLOW, None), 1, NO_FLOWS)

    def test_lots_that_cannot_all_be_out(self):
        house = ((0, 0, 1), ((0, 2, 1, 1, ()), (1, 2, 1, 1, ()), (0, 1, 2, 1, ())), (None,) * 3)
        task = (house, ((0, 0, 0), (0, 0, 1), (1, 0, 2), (1, 0, 3), (0, 2, 0)), 0, 1)
        flow = soonest_flow(task)
        self.assertEqual(people_of(task, flow), (0, 2))
        self.refuses(Refused, swapped, (task, flow, ()), 2, ((0, 1), (2, 3), (0, 4), (1, 4)))
        self.refuses(Refused, swapped, (task, flow, ()), 2, STRANGE + ((), (0,), (2,), (0, 1, 2), (2, 0), (5,)))
        for lot, swaps in (((0, 2), ()), ((1, 2), ((1, 0),)), ((0, 3), ((3, 2),))):
            self.assertEqual(swapped(task, flow, lot)[1], swaps)
        self.assertEqual(sorted(swapped(task, flow, (1, 3))[1]), [(1, 0), (3, 2)])


class Both(Case):
    """[38], [40]."""

    def test_small(self):
        self.gives(((1, 3), (0, 0, 1, 2)), both, TASK)
        self.gives(((0, 1, 2, 3), (0, 0, 1, 2, 4, 4)), both, FOUR)
        self.gives(((), (0,) * 5), both, (HOUSE, (), 1, 5))
        self.gives(((0,), (1,)), both, (HOUSE, ((2, 7, 9), (0, 7, 0)), 7, 7))
        self.gives(((), (0, 0)), both, (HOUSE, ((2, 9, 9), (0, 8, 0)), 3, 4))

    def test_all_runs(self):
        draw = random.Random(111)
        for _ in range(150):
            task, runs = small_task(draw, people=4)
            told = [out_beats(task, run) for run in runs]
            lot = first_of_all(task, lots_out(told, len(task[1]), task[3]))
            numbers = most_by_beat(task, told)
            self.gives((lot, numbers), both, task)
            # All of it in one run of its own.
            alone = [tuple([beat if person in lot else None for person, beat in enumerate(row)]) for row in told]
            self.assertEqual(most_by_beat(task, alone), numbers)
            flow = both_flow(task)
            self.gives(flow, both_flow, task)
            self.assertTrue(flow_holds(part_of(task, lot), flow))
            self.assertEqual(flow_out(part_of(task, lot), flow), numbers)
            self.gives(True, both_holds, task, lot, flow)
            for other in all_lots(range(len(task[1]))):
                self.gives(other == lot, both_holds, task, other, flow)
            for run in draw.sample(runs, min(len(runs), 5)):
                other = run_flow(task, run)
                right = flow_holds(part_of(task, lot), other) and flow_out(part_of(task, lot), other) == numbers
                self.gives(right, both_holds, task, lot, other)

    def test_judged_are_any_values(self):
        flow = both_flow(TASK)
        self.gives(True, both_holds, TASK, (1, 3), flow)
        for value in NO_LOTS + ((), (1,), (0, 1), (0, 3), (1, 2, 3)):
            self.gives(False, both_holds, TASK, value, flow)
        for value in NO_FLOWS + ((0,) * ARCS, flow[:-1] + (flow[-1] + 1,)):
            self.gives(False, both_holds, TASK, (1, 3), value)
        self.gives(False, both_holds, TASK, flow, (1, 3))


class People(Case):
    """[39], whom a flow leads out."""

    def test_small(self):
        self.gives((1, 3), people_of, TASK, joined(TASK)[1])
        self.gives((), people_of, TASK, (0,) * ARCS)
        # Of those at one place the first by the order; in ways out all who begin by the end.
        house = ((0, 1), ((0, 1, 1, 2, ()),), (3, None))
        task = (house, ((0, 0, 2), (0, 0, 1), (0, 0, 2), (1, 2, 9), (1, 3, 0), (0, 1, 0), (0, 4, 0)), 0, 2)
        arcs = {arc[:3]: at for at, arc in enumerate(arcs_of(task))}
        for went, people in (({}, (3,)), ({("go", 0, 0): 1}, (1, 3)), ({("go", 0, 0): 2}, (0, 1, 3)), ({("go", 0, 1): 1}, (3, 5)),
                             ({("stand", 0, 0): 1, ("go", 0, 1): 2, ("go", 0, 0): 2}, (0, 1, 2, 3, 5)),
                             ({("stand", 0, 0): 2, ("go", 0, 1): 2}, (0, 1, 3))):
            flow = [0] * len(arcs)
            for arc, many in went.items():
                flow[arcs[arc]] = many
            self.gives(people, people_of, task, tuple(flow))

    def test_all_runs(self):
        draw = random.Random(112)
        for _ in range(80):
            task, runs = small_task(draw, people=4)
            for run in draw.sample(runs, min(len(runs), 8)):
                flow = run_flow(task, run)
                self.gives(led_by(task, run), people_of, task, flow)
                self.assertEqual(len(people_of(task, flow)), flow_out(task, flow)[-1])


def led_by(task, run):
    """As many of each place as the run leads out, the first by the order."""
    since = out_beats(task, run)
    places = [task[1][person][:2] for person in range(len(run)) if since[person] is not None]
    found = []
    for person in order_of(task[1]):
        if task[1][person][:2] in places:
            places.remove(task[1][person][:2])
            found.append(person)
    return tuple(sorted(found))


class Swapped(Case):
    """[39]."""

    def check_swapped(self, task, flow, lot):
        told, swaps = swapped(task, flow, lot)
        self.gives((told, swaps), swapped, task, flow, lot)
        self.assertTrue(flow_holds(part_of(task, lot), told))
        self.assertEqual(flow_out(part_of(task, lot), told), flow_out(task, flow))
        people = people_of(task, flow)
        self.assertEqual(sorted(one for one, _ in swaps), [one for one in lot if one not in people])
        self.assertEqual(sorted(one for _, one in swaps), [one for one in people if one not in lot])

    def test_all_lots(self):
        draw = random.Random(113)
        told = 0
        while told < 30:
            task, runs = small_task(draw, people=4, rooms=4)
            told_outs = [out_beats(task, run) for run in runs]
            can = lots_out(told_outs, len(task[1]), task[3])
            most = max(len(lot) for lot in can)
            if len([lot for lot in can if len(lot) == most]) < 2:
                continue
            told += 1
            full = [run for run, row in zip(runs, told_outs) if len([beat for beat in row if beat is not None]) == most]
            for run in draw.sample(full, min(len(full), 6)):
                flow = run_flow(task, run)
                for lot in all_lots(range(len(task[1]))):
                    if lot in can and len(lot) == most:
                        self.check_swapped(task, flow, lot)
                    elif len(lot) == most:
                        self.told(Refused, lot, swapped, task, flow, lot)

    def test_joined(self):
        draw = random.Random(114)
        swaps_told = 0
        tasks = [draw_task(draw, people=9, rooms=6, passages=9, beats=7) for _ in range(100)]
        for task in tasks + [great_task(seed, people=25, end=18, crowded=True) for seed in range(8)]:
            lot, flow, swaps = joined(task)
            self.gives((lot, flow, swaps), joined, task)
            self.assertEqual(lot, first_out(task, task[3]))
            self.assertTrue(both_holds(task, lot, flow))
            self.assertEqual(people_of(task, flow), lot)
            swaps_told += len(swaps)
        self.assertGreater(swaps_told, 20)

    def test_through_slots_of_one_beat(self):
        # Who is taken in comes by another way out than who is left out, at the same beat.
        house = ((0, 0, 1, 1), ((0, 2, 1, 1, ()), (1, 3, 1, 1, ())), (None,) * 4)
        task = (house, ((0, 0, 0), (0, 1, 1), (1, 0, 2)), 0, 1)
        self.check_swapped(task, soonest_flow(task), (0, 2))
        # One door at a time: the rest of the way is the other's.
        house = ((0, 0, 0, 1), ((0, 2, 1, 1, ()), (1, 2, 1, 1, ()), (2, 3, 1, 1, (0, 2, 3))), (None,) * 4)
        task = (house, ((0, 0, 5), (1, 0, 0)), 0, 4)
        for lot in ((0,), (1,)):
            self.check_swapped(task, soonest_flow(task), lot)

    def test_great(self):
        began = time.monotonic()
        for crowded in (False, True):
            task = great_task(115, end=40, crowded=crowded)
            lot = first_out(task, 40)
            self.check_swapped(task, soonest_flow(task), lot)
            self.assertEqual(both(task), (lot, soonest(task)))
            last = first_out((task[0], tuple([(room, beat, 9 - urgency) for room, beat, urgency in task[1]]), 0, 40), 40)
            self.assertTrue(can_be_out(task, 40, last))
            self.check_swapped(task, both_flow(task), last)
            told, flow, _ = joined(task)
            self.assertTrue(both_holds(task, told, flow))
            self.assertEqual(len([beat for beat in outs(task, flow_run(task, flow)) if beat is not None]), len(lot))
        self.assertLess(time.monotonic() - began, 60)


class Places(Case):
    def test_people_begin_where_the_flow_does(self):
        draw = random.Random(116)
        for _ in range(60):
            task = draw_task(draw, people=8, rooms=5, passages=8, beats=6)
            flow = soonest_flow(task)
            begin = begins(task)
            led = [begin[person] for person in people_of(task, flow)]
            for node, (room, _) in enumerate(nodes_of(task)):
                more = sum(many for arc, many in zip(arcs_of(task), flow) if arc[3] == node)
                more -= sum(many for arc, many in zip(arcs_of(task), flow) if arc[4] == node)
                self.assertEqual(led.count(node), begin.count(node) if task[0][0][room] else more)


if __name__ == "__main__":
    unittest.main()
