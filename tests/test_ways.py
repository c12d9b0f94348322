"""Exchanges, who came first goes first, ways by urgency, and the plan: [41] to [44]."""

import random
import time
import unittest

from outsoonest.errors import NoPerson, Refused
from outsoonest.joined import people_of
from outsoonest.runs import flow_run, out_by, outs, run_flow, run_holds, where
from outsoonest.soonest import soonest, soonest_flow, soonest_run
from outsoonest.unrolled import arcs_of, flow_holds, flow_out
from outsoonest.ways import exchanged, is_queued, longest_stands, plan, plan_holds, queued, ways, ways_hold
from tests.draws import (first_of_all, followed, great_task, lots_out, most_by_beat, order_of, out_beats, small_task)
from tests.helping import STRANGE, Case
from tests.test_joined import NO_FLOWS
from tests.test_joined import TASK as FLOWING
from tests.test_runs import FAULTY, NO_RUNS, RUN
from tests.test_unrolled import NO_TASKS, TASK

HOUSE = ((0, 0, 1), ((0, 1, 1, 1, ()), (1, 2, 1, 1, ())), (None, None, None))
TWO = (HOUSE, ((1, 0, 5), (0, 0, 0)), 0, 4)
TWO_RUN = (((1, 1),), ((0, 0), (1, 2)))


class Refusing(Case):
    def test_tasks(self):
        for value in NO_TASKS:
            for call, more in ((exchanged, (None,) * 4), (queued, (None,)), (is_queued, (None,)), (longest_stands, (None,)),
                               (ways, (None,)), (ways_hold, (None, None)), (plan, ()), (plan_holds, (None,))):
                self.told(Refused, value, call, value, *more)

    def test_runs(self):
        for value in NO_RUNS + tuple([run for run, _ in FAULTY]):
            self.told(Refused, value, exchanged, TASK, value, None, None, None)
            for call in (queued, is_queued, longest_stands):
                self.told(Refused, value, call, TASK, value)

    def test_exchanged(self):
        no_people = STRANGE + (2, 60, (0,))
        self.refuses(NoPerson, exchanged, (TWO, TWO_RUN, 0, None, None), 2, no_people)
        self.refuses(NoPerson, exchanged, (TWO, TWO_RUN, 0, 1, None), 3, no_people)
        self.refuses(Refused, exchanged, (TWO, TWO_RUN, 0, 1, 1), 4, STRANGE + (5, 59, (1,), "1"))
        self.refuses(Refused, exchanged, ((HOUSE, ((1, 2, 5), (1, 2, 0)), 2, 4), ((), ()), 0, 1, 2), 4, (0, 1, 5))
        # In two rooms, one within a passage, both out.
        self.refuses(Refused, exchanged, (TWO, TWO_RUN, 0, 1, 1), 4, (0, 2, 3, 4))
        self.refuses(Refused, exchanged, (TWO, TWO_RUN, 1, 0, 1), 4, (0, 2, 3, 4))

    def test_flows(self):
        self.refuses(Refused, ways, (FLOWING, ()), 1, NO_FLOWS)
        self.refuses(Refused, ways_hold, (FLOWING, (), None), 1, NO_FLOWS)

    def test_judged_are_any_values(self):
        flow = run_flow(TASK, RUN)
        self.gives(True, ways_hold, TASK, flow, RUN[:2] + ((),))
        for value in NO_RUNS + tuple([run for run, _ in FAULTY]) + (RUN, ((),) * 3, (RUN[1], RUN[0], ()), (RUN[0], (), ())):
            self.gives(False, ways_hold, TASK, flow, value)
        told = plan(TASK)
        self.gives(True, plan_holds, TASK, told)
        for value in STRANGE + ((), told[:1], told + (0,), told[::-1], ((0,), told[1]), ((1, 0), told[1]), ((0, 1, 2), told[1]),
                                (None, told[1]), (told[0], None), ((0, True), told[1]), (told[0], ((),) * 3)):
            self.gives(False, plan_holds, TASK, value)
        for value in NO_RUNS + tuple([run for run, _ in FAULTY]):
            self.gives(False, plan_holds, TASK, (told[0], value))


class Exchanged(Case):
    """[41]."""

    def test_small(self):
        self.gives((((1, 2),), ((0, 0), (1, 1))), exchanged, TWO, TWO_RUN, 0, 1, 1)
        self.gives((((1, 2),), ((0, 0), (1, 1))), exchanged, TWO, TWO_RUN, 1, 0, 1)
        for person in (0, 1):
            self.gives(TWO_RUN, exchanged, TWO, TWO_RUN, person, person, 1)

    def test_meetings(self):
        # At the beat of leaving, standing, coming; at the end; one stays; in smoke.
        house = ((0, 0, 1), ((0, 1, 2, 2, ()), (1, 2, 1, 1, ()), (1, 0, 1, 1, ())), (None, 4, None))
        task = (house, ((0, 0, 0), (0, 1, 0), (1, 1, 0), (2, 0, 0), (2, 0, 0)), 0, 5)
        run = (((0, 0), (1, 2)), ((0, 1), (2, 3), (0, 5)), ((1, 3),), (), ())
        self.assertTrue(run_holds(task, run))
        self.gives((((0, 0), (1, 3)), run[1], ((1, 2),), (), ()), exchanged, task, run, 0, 2, 2)
        self.gives((run[0], ((0, 1), (1, 3)), ((2, 3), (0, 5)), (), ()), exchanged, task, run, 1, 2, 3)
        for pair in ((0, 2), (3, 4), (0, 1), (1, 2)):
            for beat in range(6):
                places = [where(task, run, person, beat) for person in pair]
                if places[0][0] != "room" or places[0] != places[1]:
                    self.told(Refused, beat, exchanged, task, run, *pair, beat)
        # One has not begun by the beat at which the other is in that room.
        late = (house, ((0, 0, 0), (0, 3, 0)), 0, 5)
        self.told(Refused, 2, exchanged, late, ((), ()), 0, 1, 2)
        self.gives((((0, 4),), ()), exchanged, late, ((), ((0, 4),)), 0, 1, 3)
        self.gives((((0, 5),), ()), exchanged, late, ((), ((0, 5),)), 0, 1, 5)
        self.told(Refused, 4, exchanged, (house, ((1, 0, 0), (1, 0, 0)), 0, 5), ((), ()), 0, 1, 4)

    def test_all_runs(self):
        draw = random.Random(121)
        for _ in range(80):
            task, runs = small_task(draw, people=3)
            for run in draw.sample(runs, min(len(runs), 6)):
                for one in range(len(run)):
                    for other in range(len(run)):
                        for beat in range(task[2], task[3] + 1):
                            self.check_exchanged(task, run, one, other, beat)

    def check_exchanged(self, task, run, one, other, beat):
        places = [followed(task, run[person], person)[beat] for person in (one, other)]
        if places[0][0] != "room" or places[0] != places[1]:
            self.told(Refused, beat, exchanged, task, run, one, other, beat)
            return
        rows = list(run)
        ahead = [tuple([entry for entry in run[person] if entry[1] < beat]) for person in (one, other)]
        rows[one] = ahead[0] + run[other][len(ahead[1]):]
        rows[other] = ahead[1] + run[one][len(ahead[0]):]
        self.gives(tuple(rows), exchanged, task, run, one, other, beat)
        self.assertTrue(run_holds(task, rows))
        self.assertEqual(entries_of(rows), entries_of(run))
        self.assertEqual(out_by(task, rows), out_by(task, run))

    def test_all_come_of_one_another(self):
        draw = random.Random(122)
        many = 0
        while many < 25:
            task, runs = small_task(draw, people=3, most=800)
            kinds = {}
            for run in runs:
                kinds.setdefault(entries_of(run), []).append(run)
            group = max(kinds.values(), key=len)
            if len(group) < 2:
                continue
            many += 1
            met = {group[0]}
            rest = [group[0]]
            while rest:
                run = rest.pop()
                for other in self.all_exchanged(task, run):
                    if other not in met:
                        met.add(other)
                        rest.append(other)
            self.assertEqual(met, set(group))

    def all_exchanged(self, task, run):
        for beat in range(task[2], task[3] + 1):
            places = [followed(task, row, person)[beat] for person, row in enumerate(run)]
            for one in range(len(run)):
                for other in range(one):
                    if places[one][0] == "room" and places[one] == places[other]:
                        yield exchanged(task, run, one, other, beat)


def entries_of(run):
    """All entries of a run, whoever's."""
    return tuple(sorted([tuple(entry) for row in run for entry in row]))


def stands(task, run, person):
    """(room, came, left) of each time a person leaves a room."""
    room, since, _ = task[1][person]
    found = []
    for passage, beat in run[person]:
        found.append((room, since, beat))
        room, since = task[0][1][passage][1], beat + task[0][1][passage][2]
    return found


def who_gets_out(task, run):
    return [person for person, beat in enumerate(out_beats(task, run)) if beat is not None]


def dealt_by_hand(task, run):
    """The entries of those who get out, dealt one by one to who came first to where they are."""
    people = who_gets_out(task, run)
    entries = sorted([(beat, passage) for person in people for passage, beat in run[person]])
    rows = {person: [] for person in people}
    order = order_of(task[1])
    for beat, passage in entries:
        best = None
        for person in people:
            room, came, _ = task[1][person]
            for entered, when in rows[person]:
                room, came = task[0][1][entered][1], when + task[0][1][entered][2]
            if room == task[0][1][passage][0] and came <= beat:
                key = (came, order.index(person))
                best = key if best is None else min(best, key)
        rows[order[best[1]]].append((passage, beat))
    return tuple([tuple(rows[person]) if person in rows else row for person, row in enumerate(run)])


def in_queue(task, run):
    """Whether nobody leaves a room ahead of one who came there first, or alike and is ahead in the order."""
    order = order_of(task[1])
    told = [(room, came, order.index(person), left) for person in who_gets_out(task, run)
            for room, came, left in stands(task, run, person)]
    return not [1 for one in told for other in told if one[0] == other[0] and one[3] < other[3] and other[1:3] < one[1:3]]


class Queued(Case):
    """[42]."""

    def test_small(self):
        self.gives(TWO_RUN, queued, TWO, TWO_RUN)
        self.gives(True, is_queued, TWO, TWO_RUN)
        self.gives((0, 1, None), longest_stands, TWO, TWO_RUN)
        other = (((1, 2),), ((0, 0), (1, 1)))
        self.gives(TWO_RUN, queued, TWO, other)
        self.gives(False, is_queued, TWO, other)
        self.gives((0, 2, None), longest_stands, TWO, other)
        for run in (((), ()), (((1, 4),), ())):
            self.gives(run, queued, TWO, run)
            self.gives(True, is_queued, TWO, run)
            self.gives((None,) * 3, longest_stands, TWO, run)
        self.gives((), queued, (HOUSE, (), 0, 4), ())
        self.gives(True, is_queued, (HOUSE, (), 0, 4), ())
        self.gives((None,) * 3, longest_stands, (HOUSE, (), 0, 4), ())

    def test_alike_by_the_order(self):
        # All come at beat 0; the order is 2, 0, 1, 3; passage 1 is entered behind passage 0 at one beat.
        house = ((0, 1), ((0, 1, 1, 1, ()), (0, 1, 2, 1, ())), (None, None))
        task = (house, ((0, 0, 4), (0, 0, 4), (0, 0, 1), (0, 0, 9), (1, 0, 0)), 0, 5)
        run = (((1, 1),), ((0, 0),), ((0, 1),), ((1, 0),), ())
        self.gives((((1, 0),), ((0, 1),), ((0, 0),), ((1, 1),), ()), queued, task, run)
        self.gives(False, is_queued, task, run)
        # At one beat nobody leaves ahead.
        self.gives(True, is_queued, task, (((0, 0),), ((0, 1),), ((1, 0),), ((1, 1),), ()))
        self.gives((1, None), longest_stands, task, run)

    def test_others_stay(self):
        # Who does not get out is passed over, and stays as they are.
        house = ((0, 0, 1), ((0, 2, 1, 1, ()), (0, 1, 1, 1, ())), (None,) * 3)
        task = (house, ((0, 0, 0), (0, 0, 9), (0, 0, 5)), 0, 5)
        run = (((1, 0),), ((0, 1),), ((0, 3),))
        self.gives(((((1, 0),)), ((0, 3),), ((0, 1),)), queued, task, run)
        self.gives((3, None, None), longest_stands, task, run)
        self.gives(True, is_queued, task, (((1, 5),), ((0, 3),), ((0, 1),)))
        self.gives(False, is_queued, task, (((1, 0),), ((0, 1),), ((0, 3),)))

    def test_a_room_that_is_come_to_twice(self):
        house = ((0, 0, 1), ((0, 1, 1, 1, ()), (1, 0, 1, 1, ()), (0, 2, 1, 1, ())), (None,) * 3)
        task = (house, ((0, 0, 0), (0, 1, 5)), 0, 9)
        run = (((0, 0), (1, 1), (2, 4)), ((2, 5),))
        self.gives((((0, 0), (1, 1), (2, 5)), ((2, 4),)), queued, task, run)
        self.gives(False, is_queued, task, run)
        self.gives(True, is_queued, task, (((0, 0), (1, 1), (2, 5)), ((2, 4),)))
        self.gives((4, 0, None), longest_stands, task, run)
        task = (house, ((0, 0, 0), (0, 2, 5)), 0, 9)
        self.gives(run, queued, task, run)
        self.gives(True, is_queued, task, run)
        self.gives((3, 0, None), longest_stands, task, run)

    def test_all_runs(self):
        draw = random.Random(123)
        for _ in range(60):
            task, runs = small_task(draw, people=3)
            kinds = {}
            for run in runs:
                out = who_gets_out(task, run)
                rest = tuple([row for person, row in enumerate(run) if person not in out])
                kinds.setdefault((tuple(out), rest, entries_of([run[person] for person in out])), []).append(run)
            for run in draw.sample(runs, min(len(runs), 10)):
                self.check_queued(task, run, kinds)

    def check_queued(self, task, run, kinds):
        told = queued(task, run)
        self.gives(told, queued, task, run)
        self.assertEqual(told, dealt_by_hand(task, run))
        self.assertTrue(run_holds(task, told) and is_queued(task, told))
        self.assertEqual(run_flow(task, told), run_flow(task, run))
        self.assertEqual(who_gets_out(task, told), who_gets_out(task, run))
        self.gives(in_queue(task, run), is_queued, task, run)
        group = [rows for rows in kinds.values() if run in rows][0]
        self.assertIn(told, group)
        longest = [by_hand(task, other) for other in group]
        self.gives(by_hand(task, run), longest_stands, task, run)
        for room, one in enumerate(longest_stands(task, told)):
            if one is None:
                self.assertEqual(set([row[room] for row in longest]), {None})
            else:
                self.assertEqual(one, min(row[room] for row in longest))


def by_hand(task, run):
    told = [one for person in who_gets_out(task, run) for one in stands(task, run, person)]
    return tuple([max([left - came for at, came, left in told if at == room], default=None) for room in range(len(task[0][0]))])


class Left:
    """What is left of a flow, by arc as it is told; ways are looked for one by one, all of them."""

    def __init__(self, task, flow):
        self.task, self.rest = task, dict((arc[:3], many) for arc, many in zip(arcs_of(task), flow))

    def soonest(self, room, beat):
        """The soonest beat of being out from a place, over arcs of which something is left; None for none."""
        house = self.task[0]
        if house[0][room]:
            return beat
        found = [self.soonest(room, beat + 1)] if self.rest.get(("stand", room, beat), 0) else []
        found += [self.soonest(head, beat + length) for at, (tail, head, length, _, _) in enumerate(house[1])
                  if tail == room and self.rest.get(("go", at, beat), 0)]
        return min([when for when in found if when is not None], default=None)

    def take(self, person, row):
        room, since, _ = self.task[1][person]
        for passage, beat in row:
            for when in range(since, beat):
                self.rest["stand", room, when] -= 1
            self.rest["go", passage, beat] -= 1
            room, since = self.task[0][1][passage][1], beat + self.task[0][1][passage][2]


def is_by_urgency(task, flow, run):
    """Whether a run is one of the flow in which each is out as soon as those ahead have left of it."""
    people = people_of(task, flow)
    since = out_beats(task, run)
    if run_flow(task, run) != flow or [person for person in range(len(run)) if (since[person] is not None) != (person in people)]:
        return False
    if [row for person, row in enumerate(run) if row and person not in people]:
        return False
    left = Left(task, flow)
    for person in order_of(task[1]):
        if person in people:
            if left.soonest(*task[1][person][:2]) != since[person]:
                return False
            left.take(person, run[person])
    return True


class Ways(Case):
    """[43]."""

    def test_small(self):
        # Both passages lead out; who is first by the order has the short one.
        house = ((0, 1), ((0, 1, 3, 1, ()), (0, 1, 1, 1, ())), (None, None))
        task = (house, ((0, 0, 5), (0, 0, 5), (0, 0, 0), (1, 0, 0)), 0, 5)
        flow = run_flow(task, (((1, 0),), ((0, 0),), ((1, 1),), ()))
        told = (((1, 1),), ((0, 0),), ((1, 0),), ())
        self.gives(told, ways, task, flow)
        self.gives(True, ways_hold, task, flow, told)
        self.gives(False, ways_hold, task, flow, (((0, 0),), ((1, 1),), ((1, 0),), ()))
        self.gives(False, ways_hold, task, flow, (((1, 0),), ((0, 0),), ((1, 1),), ()))
        fewer = run_flow(task, (((0, 0),), ((1, 4),), (), ()))
        self.gives((((1, 4),), (), ((0, 0),), ()), ways, task, fewer)
        self.gives(False, ways_hold, task, fewer, (((0, 0),), (), ((1, 4),), ()))
        self.gives(False, ways_hold, task, fewer, (((1, 4),), ((0, 0),), (), ()))
        nothing = (0,) * len(flow)
        self.gives(((),) * 4, ways, task, nothing)
        self.gives(True, ways_hold, task, nothing, ((),) * 4)
        # Who enters a passage and is not out by the end is none who enters nothing.
        self.gives(False, ways_hold, task, nothing, (((1, 5),), (), (), ()))
        self.gives((), ways, (house, (), 0, 5), (0,) * len(arcs_of((house, (), 0, 5))))

    def test_equal_ways(self):
        # Of two ways that are as soon any may be had, and the other is left.
        house = ((0, 0, 0, 1), ((0, 1, 1, 1, ()), (0, 2, 1, 1, ()), (1, 3, 1, 1, ()), (2, 3, 1, 1, ()), (1, 3, 2, 1, ())), (None,) * 4)
        task = (house, ((0, 0, 1), (0, 0, 1)), 0, 3)
        one, other = ((0, 0), (2, 1)), ((1, 0), (3, 1))
        flow = run_flow(task, (one, other))
        self.assertIn(ways(task, flow), ((one, other), (other, one)))
        self.gives(True, ways_hold, task, flow, (one, other))
        self.gives(True, ways_hold, task, flow, (other, one))
        # As soon out, and over other arcs: no run of the flow.
        flow = run_flow(task, (one, ()))
        self.gives(True, ways_hold, task, flow, (one, ()))
        self.gives(False, ways_hold, task, flow, (other, ()))
        self.gives(False, ways_hold, task, flow, ((), one))

    def test_all_runs(self):
        draw = random.Random(124)
        for _ in range(60):
            task, runs = small_task(draw, people=3)
            for run in draw.sample(runs, min(len(runs), 6)):
                flow = run_flow(task, run)
                told = ways(task, flow)
                self.gives(told, ways, task, flow)
                self.assertTrue(run_holds(task, told))
                self.assertTrue(is_by_urgency(task, flow, told))
                self.gives(True, ways_hold, task, flow, told)
                alike = [other for other in runs if run_flow(task, other) == flow]
                for other in draw.sample(alike, min(len(alike), 12)):
                    self.gives(is_by_urgency(task, flow, other), ways_hold, task, flow, other)
                self.gives(False, ways_hold, task, flow, draw.choice([other for other in runs if run_flow(task, other) != flow]
                                                                    or [None]))

    def test_one_taken_off(self):
        draw = random.Random(125)
        for _ in range(60):
            task, runs = small_task(draw, people=3)
            run = draw.choice(runs)
            out = who_gets_out(task, run)
            for person in out:
                rest = tuple([() if at == person else row for at, row in enumerate(run)])
                if task[0][0][task[1][person][0]] == 0:
                    self.assertTrue(flow_holds(task, run_flow(task, rest)))
                    self.assertEqual(len(people_of(task, run_flow(task, rest))), len(out) - 1)

    def test_great(self):
        began = time.monotonic()
        for crowded in (False, True):
            task = great_task(126, crowded=crowded)
            flow = soonest_flow(task)
            told = ways(task, flow)
            self.assertTrue(ways_hold(task, flow, told))
            self.assertEqual(tuple([at for at, beat in enumerate(outs(task, told)) if beat is not None]), people_of(task, flow))
            self.assertEqual(out_by(task, told), flow_out(task, flow))
            line = queued(task, told)
            self.assertTrue(is_queued(task, line))
            self.assertEqual(run_flow(task, line), flow)
            self.assertEqual(line, dealt_by_hand(task, told))
            for one, other in zip(longest_stands(task, line), longest_stands(task, flow_run(task, flow))):
                self.assertTrue(one == other is None or one <= other)
            self.assertTrue(plan_holds(task, plan(task)))
        self.assertLess(time.monotonic() - began, 60)


class Plan(Case):
    """[44]."""

    def test_small(self):
        self.gives(((0, 1), (((1, 0),), ((0, 0), (1, 1)))), plan, TWO)
        self.gives(False, plan_holds, TWO, ((0, 1), TWO_RUN))
        self.gives(((), ()), plan, (HOUSE, (), 0, 4))
        self.gives(True, plan_holds, (HOUSE, (), 0, 4), ((), ()))
        self.gives(((1,), ((), ())), plan, (HOUSE, ((0, 3, 0), (2, 3, 9)), 3, 3))
        self.gives(True, plan_holds, (HOUSE, ((0, 3, 0), (2, 3, 9)), 3, 3), ((1,), ((), ())))
        # Others may enter passages, if the widths bear it and they are not out.
        task = (HOUSE, ((1, 0, 0), (0, 0, 9)), 0, 1)
        self.gives(((0,), (((1, 0),), ())), plan, task)
        self.gives(True, plan_holds, task, ((0,), (((1, 0),), ((0, 0),))))
        self.gives(False, plan_holds, task, ((0,), (((1, 1),), ())))

    def test_all_runs(self):
        draw = random.Random(127)
        for _ in range(120):
            task, runs = small_task(draw, people=4)
            told = [out_beats(task, run) for run in runs]
            lot = first_of_all(task, lots_out(told, len(task[1]), task[3]))
            numbers = most_by_beat(task, told)
            self.gives(plan(task), plan, task)
            mine, run = plan(task)
            self.assertEqual(mine, lot)
            self.assertTrue(run_holds(task, run))
            self.assertEqual(tuple(who_gets_out(task, run)), lot)
            self.assertEqual(out_by(task, run), numbers)
            self.assertFalse([row for person, row in enumerate(run) if row and person not in lot])
            self.gives(True, plan_holds, task, (lot, run))
            self.gives(True, ways_hold, task, run_flow(task, run), run)
            for other in draw.sample(runs, min(len(runs), 20)):
                right = tuple(who_gets_out(task, other)) == lot and out_by(task, other) == numbers
                self.gives(right, plan_holds, task, (lot, other))
            best = soonest_run(task)
            self.gives(tuple(who_gets_out(task, best)) == lot, plan_holds, task, (lot, best))
            self.assertEqual(soonest(task), numbers)


if __name__ == "__main__":
    unittest.main()
