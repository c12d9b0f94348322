"""Runs, where they have everybody, and their flows: [17], [18], [19]."""

import itertools
import random
import unittest

from outsoonest.errors import NoPerson, Refused
from outsoonest.runs import (check_run, flow_run, lost_of, out_by, outs, run_faults, run_flow, run_holds, where)
from outsoonest.unrolled import arcs_of, flow_holds, flow_out
from tests.draws import all_runs, draw_task, followed, out_numbers, smoky
from tests.helping import STRANGE, Case, deep
from tests.test_unrolled import NO_TASKS, TASK

RUN = (((0, 0), (1, 1)), ((0, 0), (1, 3)), ((1, 4),))

NO_RUNS = STRANGE + ((), ((), ()), ((), (), (), ()), (None, (), ()), ((), (), 0), ((), (), "0"), (((0,),), (), ()),
                     (((0, 0, 0),), (), ()), ((), ((2, 0),), ()), ((), ((-1, 0),), ()), ((), ((True, 0),), ()),
                     ((), ((0, 5),), ()), ((), ((0, -1),), ()), ((), ((0, False),), ()), ((), ((0, None),), ()),
                     ((), (None,), ()), ((), ("00",), ()), (((0, 0),), ((0, 0),), deep(50)))

# Runs that have the form, and do not hold, with their faults.
FAULTY = (
    ((((0, 0), (1, 2)), ((0, 3),), ()), (("entry", 0, 1), ("entry", 1, 0))),
    ((((1, 0),), (), ((0, 1),)), (("entry", 0, 0), ("entry", 2, 0))),
    (((), (), ((1, 0),)), (("entry", 2, 0),)),
    ((((0, 0), (1, 0)), (), ()), (("entry", 0, 1),)),
    ((((0, 0), (1, 1), (1, 3)), (), ()), (("entry", 0, 2),)),
    ((((0, 0), (0, 1)), (), ()), (("entry", 0, 1),)),
    ((((0, 1), (1, 4)), ((0, 0), (1, 4)), ((1, 4),)), (("width", 1, 4),)),
    ((((0, 2), (1, 3)), ((0, 2), (1, 3)), ((1, 3),)), (("width", 1, 3),)),
    ((((1, 0), (1, 0)), ((1, 0), (0, 4), (0, 4), (0, 4)), ()),
     (("entry", 0, 0), ("entry", 1, 0), ("width", 0, 4), ("width", 1, 0))),
)


class Form(Case):
    def test_check_run(self):
        for run in (RUN, ((), (), ())) + tuple([run for run, _ in FAULTY]):
            self.gives(run, check_run, TASK, run)
        self.gives((), check_run, (TASK[0], (), 0, 4), ())

    def test_no_runs(self):
        for value in NO_RUNS:
            self.told(Refused, value, check_run, TASK, value)
            self.told(Refused, value, run_faults, TASK, value)
            self.gives(False, run_holds, TASK, value)

    def test_beats_from_now_on(self):
        task = (TASK[0], (), 2, 3)
        self.gives((), check_run, task, ())
        task = (TASK[0], ((1, 2, 0),), 2, 3)
        for beat in range(6):
            if beat in (2, 3):
                self.gives((((1, beat),),), check_run, task, (((1, beat),),))
            else:
                self.told(Refused, (((1, beat),),), check_run, task, (((1, beat),),))

    def test_no_tasks(self):
        for value in NO_TASKS:
            for call, more in ((check_run, (None,)), (run_faults, (None,)), (run_holds, (None,)), (where, (None,) * 3),
                               (outs, (None,)), (out_by, (None,)), (lost_of, (None,)), (run_flow, (None,)),
                               (flow_run, (None,))):
                self.told(Refused, value, call, value, *more)


class Faults(Case):
    def test_faults(self):
        for run, faults in FAULTY + ((RUN, ()), (((), (), ()), ())):
            self.gives(faults, run_faults, TASK, run)
            self.gives(not faults, run_holds, TASK, run)

    def test_width_of_none(self):
        task = (((0, 1), ((0, 1, 1, 0, ()),), (None, None)), ((0, 0, 0),), 0, 4)
        self.gives((("width", 0, 2),), run_faults, task, (((0, 2),),))
        self.gives(False, run_holds, task, (((0, 2),),))

    def test_own_beat_and_smoke(self):
        house = ((0, 0, 1), ((0, 1, 1, 9, ()), (1, 2, 1, 9, ())), (None, 2, None))
        task = (house, ((0, 2, 0), (0, 0, 0), (0, 0, 0)), 0, 4)
        self.gives((("entry", 0, 0), ("entry", 2, 1)), run_faults, task, (((0, 1),), ((0, 0), (1, 1)), ((0, 1), (1, 2))))
        # Who goes into smoke can; who is in it goes nowhere.
        self.gives((), run_faults, task, (((0, 2),), ((0, 0), (1, 1)), ((0, 4),)))

    def test_drawn(self):
        draw = random.Random(31)
        for _ in range(400):
            task = draw_task(draw, people=3)
            house, people, now, end = task
            if not house[1]:
                continue
            run = tuple([tuple([(draw.randrange(len(house[1])), draw.randint(now, end)) for _ in range(draw.randrange(3))])
                         for _ in people])
            faults = [("entry", at, self.first(house, people[at], run[at])) for at in range(len(run))
                      if self.first(house, people[at], run[at]) is not None]
            all_entries = [entry for row in run for entry in row]
            faults += [("width",) + entry for entry in sorted(set(all_entries))
                       if all_entries.count(entry) > house[1][entry[0]][3]]
            self.gives(tuple(faults), run_faults, task, run)
            self.assertIs(run_holds(task, run), not faults)

    def first(self, house, person, row):
        room, since = person[0], person[1]
        for at, (passage, beat) in enumerate(row):
            tail, head, length, _, shut = house[1][passage]
            if tail != room or since > beat or beat in shut or smoky(house, room, beat):
                return at
            room, since = head, beat + length
        return None


class Where(Case):
    def test_where(self):
        house = ((0, 0, 1), ((0, 1, 3, 2, ()), (1, 2, 2, 1, ())), (None, 5, None))
        task = (house, ((0, 1, 0), (0, 0, 0), (1, 2, 0), (2, 3, 0), (0, 9, 0), (1, 5, 0), (0, 0, 0)), 0, 7)
        run = (((0, 1), (1, 4)), ((0, 2),), (), (), (), (), ((0, 7),))
        rows = (
            (("within", None, 1), ("room", 0), ("within", 0, 4), ("within", 0, 4), ("room", 1), ("within", 1, 6), ("out", 2),
             ("out", 2)),
            (("room", 0),) * 3 + (("within", 0, 5),) * 2 + (("lost", 5),) * 3,
            (("within", None, 2),) * 2 + (("room", 1),) * 3 + (("lost", 5),) * 3,
            (("within", None, 3),) * 3 + (("out", 2),) * 5,
            (("within", None, 9),) * 8,
            (("within", None, 5),) * 5 + (("lost", 5),) * 3,
            (("room", 0),) * 8)
        for person, told in enumerate(rows):
            for beat, place in enumerate(told):
                self.gives(place, where, task, run, person, beat)
        self.gives((6, None, None, 3, None, None, None), outs, task, run)
        self.gives((0, 0, 0, 1, 1, 1, 2, 2), out_by, task, run)
        self.gives((1, 2, 5), lost_of, task, run)

    def test_lost_since(self):
        house = ((0, 0, 1), ((0, 1, 2, 2, ()),), (4, 2, None))
        task = (house, ((0, 0, 0), (0, 0, 0), (0, 5, 0), (1, 9, 0)), 0, 6)
        run = (((0, 2),), (), (), ())
        for person, since in ((0, 4), (1, 4), (2, 5)):
            self.gives(("lost", since), where, task, run, person, since)
            self.gives(("lost", since), where, task, run, person, 6)
        self.gives((0, 1, 2), lost_of, task, run)
        self.gives((0, 1), lost_of, task[:3] + (4,), run)
        self.gives((), lost_of, task[:3] + (3,), run)

    def test_behind_the_end(self):
        task = (((0, 1), ((0, 1, 9, 1, ()),), (None, None)), ((0, 0, 0), (1, 7, 0)), 0, 4)
        self.gives((None, None), outs, task, (((0, 4),), ()))
        self.gives((0,) * 5, out_by, task, (((0, 4),), ()))
        self.gives((), lost_of, task, (((0, 4),), ()))
        self.gives(("within", 0, 12), where, task[:3] + (5,), (((0, 3),), ()), 0, 4)
        self.gives((0,) * 4, run_flow, task, (((0, 4),), ()))

    def test_nobody(self):
        task = (TASK[0], (), 0, 4)
        self.gives((), outs, task, ())
        self.gives((0,) * 5, out_by, task, ())
        self.gives((), lost_of, task, ())
        self.gives((0,) * len(arcs_of(task)), run_flow, task, ())
        self.gives((), flow_run, task, (0,) * len(arcs_of(task)))

    def test_all_runs(self):
        draw = random.Random(32)
        many = 0
        while many < 60:
            task = draw_task(draw, people=2, beats=4)
            runs = all_runs(task, 3000)
            if runs is None:
                continue
            many += 1
            for run in draw.sample(runs, min(len(runs), 25)):
                self.check_run(task, run)

    def check_run(self, task, run):
        house, people, now, end = task
        self.assertTrue(run_holds(task, run))
        rows = [followed(task, run[person], person) for person in range(len(run))]
        for person, row in enumerate(rows):
            for beat in range(now, end + 1):
                self.assertEqual(where(task, run, person, beat), row[beat])
        self.gives(tuple([next((beat for beat in range(now, end + 1) if row[beat][0] == "out"), None) for row in rows]),
                   outs, task, run)
        self.gives(out_numbers(task, run), out_by, task, run)
        self.gives(tuple([person for person, row in enumerate(rows) if row[end][0] == "lost"]), lost_of, task, run)

    def test_errors(self):
        for value in NO_RUNS + tuple([run for run, _ in FAULTY]):
            self.told(Refused, value, where, TASK, value, None, None)
            for call in (outs, out_by, lost_of, run_flow):
                self.told(Refused, value, call, TASK, value)
        self.refuses(NoPerson, where, (TASK, RUN, 0, 9), 2, STRANGE + (3, 60, (0,)))
        self.refuses(Refused, where, (TASK, RUN, 0, 0), 3, STRANGE + (5, 60, (0,)))
        self.told(Refused, 1, where, (TASK[0], ((0, 2, 0),), 2, 4), ((),), 0, 1)


class Flows(Case):
    def test_flow_of_a_run(self):
        names = [arc[:3] for arc in arcs_of(TASK)]
        taken = {("go", 0, 0): 2, ("go", 1, 1): 1, ("stand", 1, 1): 1, ("stand", 1, 2): 1, ("go", 1, 3): 1}
        self.gives(tuple([taken.get(name, 0) for name in names]), run_flow, TASK, RUN)
        self.gives((0,) * len(names), run_flow, TASK, (((0, 0),), ((0, 1),), ((1, 4),)))

    def test_who_stands_on_the_way(self):
        house = ((0, 1, 0, 0), ((0, 3, 2, 1, ()), (3, 2, 1, 1, ()), (2, 1, 3, 2, ())), (None,) * 4)
        task = (house, ((0, 1, 0), (3, 0, 0), (0, 0, 0)), 0, 12)
        run = (((0, 2), (1, 6), (2, 9)), ((1, 1), (2, 3)), ((0, 4), (1, 7)))
        taken = {("stand", 0, 1): 1, ("go", 0, 2): 1, ("stand", 3, 4): 1, ("stand", 3, 5): 1, ("go", 1, 6): 1,
                 ("stand", 2, 7): 1, ("stand", 2, 8): 1, ("go", 2, 9): 1,
                 ("stand", 3, 0): 1, ("go", 1, 1): 1, ("stand", 2, 2): 1, ("go", 2, 3): 1}
        flow = tuple([taken.get(arc[:3], 0) for arc in arcs_of(task)])
        self.assertEqual(sum(flow), len(taken))
        self.gives(flow, run_flow, task, run)
        self.gives((run[0], run[1], ()), flow_run, task, flow)

    def test_all_runs(self):
        draw = random.Random(33)
        many = 0
        while many < 60:
            task = draw_task(draw, people=3, beats=4)
            runs = all_runs(task, 3000)
            if runs is None:
                continue
            many += 1
            for run in draw.sample(runs, min(len(runs), 25)):
                flow = run_flow(task, run)
                self.gives(flow, run_flow, task, run)
                self.check_flow(task, flow)
                self.assertEqual(flow_out(task, flow), out_by(task, run))
                self.check_arcs(task, run, flow)

    def check_flow(self, task, flow):
        """A flow is that of its run, in which nobody else enters a passage."""
        self.assertTrue(flow_holds(task, flow))
        run = flow_run(task, flow)
        self.gives(run, flow_run, task, flow)
        self.assertTrue(run_holds(task, run))
        self.assertEqual(run_flow(task, run), flow)
        self.assertEqual(out_by(task, run), flow_out(task, flow))
        for since, row in zip(outs(task, run), run):
            self.assertFalse(since is None and row)

    def check_arcs(self, task, run, flow):
        """By arc who takes it, counted by where they are."""
        rows = [row for row in [followed(task, run[at], at) for at in range(len(run))] if row[task[3]][0] == "out"]
        entries = [entry for row, told in zip(run, outs(task, run)) if told is not None for entry in row]
        for (kind, name, beat, *_), many in zip(arcs_of(task), flow):
            if kind == "go":
                self.assertEqual(many, entries.count((name, beat)))
            else:
                stood = [row for row in rows if row[beat] == ("room", name) and row[beat + 1] == ("room", name)]
                self.assertEqual(many, len(stood))

    def test_all_flows(self):
        draw = random.Random(34)
        many = 0
        while many < 40:
            task = draw_task(draw, people=3, beats=3, rooms=3, passages=3)
            arcs = arcs_of(task)
            if not 0 < len(arcs) < 8:
                continue
            many += 1
            for flow in itertools.product(range(3), repeat=len(arcs)):
                if flow_holds(task, flow):
                    self.check_flow(task, flow)

    def test_no_flows(self):
        arcs = arcs_of(TASK)
        for value in STRANGE + ((), (0,) * (len(arcs) + 1), (1,) * len(arcs), (0,) * (len(arcs) - 1) + (True,),
                                (1,) + (0,) * (len(arcs) - 1)):
            self.told(Refused, value, flow_run, TASK, value)

    def test_sixty(self):
        house = ((0, 1), tuple([(0, 1, 1 + at % 3, 9, ()) for at in range(9)]), (None, None))
        task = (house, ((0, 0, 0),) * 60, 0, 59)
        run = tuple([((at % 9, at // 9),) for at in range(60)])
        self.assertEqual(out_by(task, run)[-1], 60)
        self.check_flow(task, run_flow(task, run))


if __name__ == "__main__":
    unittest.main()
