"""One beat later, what can be kept, and best again: [49] to [51]."""

import random
import time
import unittest

from outsoonest.errors import Refused
from outsoonest.joined import people_of
from outsoonest.led import behind, kept_run, led_best, led_run
from outsoonest.lots import first_out
from outsoonest.runs import out_by, outs, run_flow, run_holds
from outsoonest.soonest import soonest, soonest_flow, soonest_run
from outsoonest.unrolled import arcs_of, check_task, flow_holds, flow_out
from outsoonest.ways import plan
from tests.draws import draw_task, followed, great_task, most_by_beat, order_of, out_beats, small_task, smoky
from tests.helping import Case
from tests.test_joined import ARCS, NO_FLOWS
from tests.test_joined import TASK as FLOWING
from tests.test_runs import FAULTY, NO_RUNS
from tests.test_unrolled import NO_TASKS, TASK

HOUSE = ((0, 1), ((0, 1, 1, 1, ()), (0, 1, 2, 1, ())), (None, None))
TWO = (HOUSE, ((0, 0, 1), (0, 0, 0)), 0, 4)


class Refusing(Case):
    def test_tasks(self):
        for value in NO_TASKS:
            for call in (behind, kept_run, led_best, led_run):
                self.told(Refused, value, call, value, None)

    def test_runs(self):
        for value in NO_RUNS:
            for call in (behind, kept_run, led_run):
                self.told(Refused, value, call, TASK, value)
        for run, _ in FAULTY:
            self.told(Refused, run, behind, TASK, run)
            self.assertEqual(len(kept_run(TASK, run)), 3)

    def test_flows(self):
        self.refuses(Refused, led_best, (FLOWING, ()), 1, NO_FLOWS)

    def test_behind_the_last_beat(self):
        task = TASK[0], (), 4, 4
        self.told(Refused, (), behind, task, ())
        self.told(Refused, ((),), behind, (TASK[0], ((0, 59, 0),), 59, 59), ((),))
        # Nobody can be told of who comes behind beat 59.
        house = ((0, 1), ((0, 1, 3, 2, ()), (0, 1, 1, 1, ())), (None, None))
        for now, refused in ((55, False), (56, False), (57, True), (58, True)):
            task = (house, ((0, now, 0), (0, now, 1), (0, 59, 0)), now, 59)
            run = (((1, now),), ((0, now),), ())
            if refused:
                self.told(Refused, run, behind, task, run)
            else:
                self.gives(((house, ((1, now + 1, 0), (1, now + 3, 1), (0, 59, 0)), now + 1, 59), ((),) * 3), behind, task, run)
        late = (((0, 57),), (), ())
        self.gives(((house, ((0, 57, 0),) * 2 + ((0, 59, 0),), 57, 59), late), behind,
                   (house, ((0, 56, 0),) * 2 + ((0, 59, 0),), 56, 59), late)


class Behind(Case):
    """[49]."""

    def test_small(self):
        later = (HOUSE, ((1, 1, 1), (1, 2, 0)), 1, 4)
        self.gives((later, ((), ())), behind, TWO, (((0, 0),), ((1, 0),)))
        # In rooms, lost, out, within a passage, to come.
        house = ((0, 0, 1), ((0, 1, 2, 1, ()), (1, 2, 1, 1, ())), (None, 2, None))
        people = ((0, 1, 0), (0, 1, 1), (1, 2, 2), (2, 1, 3), (0, 4, 4), (1, 1, 5), (0, 2, 6))
        run = (((0, 1),), ((0, 2),), (), (), ((0, 4),), ((1, 1),), ())
        self.gives(((house, ((1, 3, 0), (0, 2, 1), (1, 2, 2), (2, 2, 3), (0, 4, 4), (2, 2, 5), (0, 2, 6)), 2, 5),
                    ((), ((0, 2),), (), (), ((0, 4),), (), ())), behind, (house, people, 1, 5), run)
        later, rest = behind((house, people, 1, 5), run)
        self.assertEqual(behind(later, rest)[0][1], ((1, 3, 0), (1, 4, 1), (1, 3, 2), (2, 3, 3), (0, 4, 4), (2, 3, 5), (0, 3, 6)))

    def test_all_runs(self):
        draw = random.Random(151)
        many = 0
        while many < 120:
            task, runs = small_task(draw, people=3)
            if task[2] == task[3]:
                continue
            many += 1
            numbers = most_by_beat(task, [out_beats(task, run) for run in runs])
            best = [run for run in runs if out_by(task, run) == numbers]
            for run in draw.sample(runs, min(len(runs), 8)) + draw.sample(best, min(len(best), 4)):
                self.check_behind(task, run, numbers)

    def check_behind(self, task, run, numbers):
        later, rest = behind(task, run)
        self.gives((later, rest), behind, task, run)
        self.assertEqual(later, check_task(later))
        self.assertEqual((later[0], later[2], later[3]), (task[0], task[2] + 1, task[3]))
        for person, (room, beat, urgency) in enumerate(later[1]):
            self.assertEqual(urgency, task[1][person][2])
            place = followed(task, run[person], person)[task[2] + 1]
            since = {"within": place[-1], "room": task[2] + 1, "lost": task[2] + 1, "out": task[2] + 1}[place[0]]
            self.assertEqual(beat, since)
            if place[0] in ("room", "out"):
                self.assertEqual(room, place[1])
            elif place[0] == "lost":
                self.assertTrue(smoky(task[0], room, task[2] + 1))
        self.assertEqual(rest, tuple([tuple([entry for entry in row if entry[1] > task[2]]) for row in run]))
        self.assertTrue(run_holds(later, rest))
        self.assertEqual(out_by(later, rest), out_by(task, run)[1:])
        if out_by(task, run) == numbers:
            self.assertEqual(soonest(later), numbers[1:])
        out = tuple([person for person, beat in enumerate(out_beats(task, run)) if beat is not None])
        if out == first_out(task, task[3]):
            self.assertEqual(first_out(later, task[3]), out)

    def test_plans_stay_best(self):
        draw = random.Random(152)
        for _ in range(60):
            task = draw_task(draw, people=8, rooms=6, passages=9, beats=7)
            lot, run = plan(task)
            while task[2] < task[3]:
                told = soonest(task)
                task, run = behind(task, run)
                self.assertEqual(soonest(task), told[1:])
                self.assertEqual(out_by(task, run), told[1:])
                self.assertEqual(first_out(task, task[3]), lot)


def keep_by_hand(task, run):
    """By person, by the order, the greatest beginning that can be kept: all beginnings are tried."""
    house, people, now, end = task
    kept = [()] * len(people)
    ahead = []
    for person in order_of(people):
        for many in range(len(run[person]) + 1):
            row = tuple([tuple(entry) for entry in run[person][:many]])
            fits = all(ahead.count(entry) < house[1][entry[0]][3] for entry in row)
            if fits and can_be(house, people[person], row):
                kept[person] = row
        ahead += list(kept[person])
    return tuple(kept)


def can_be(house, person, row):
    room, since, _ = person
    for passage, beat in row:
        tail, head, length, _, shut = house[1][passage]
        if tail != room or beat < since or beat in shut or smoky(house, room, beat):
            return False
        room, since = head, beat + length
    return True


class Kept(Case):
    """[50]."""

    def test_small(self):
        self.gives(((), ((0, 0),)), kept_run, TWO, ((((0, 0),), ((0, 0),))))
        self.gives((((0, 1),), ((0, 0),)), kept_run, TWO, (((0, 1),), ((0, 0),)))
        self.gives(((), ()), kept_run, TWO, ((), ()))
        self.gives((), kept_run, (HOUSE, (), 0, 4), ())
        # More than the width, at equal urgencies: who has the lesser number is ahead.
        house = ((0, 0, 1), ((0, 1, 1, 2, (1,)), (1, 2, 1, 1, ()), (0, 1, 1, 0, ())), (None, 4, None))
        task = (house, ((0, 0, 3),) * 4 + ((0, 0, 1),), 0, 5)
        row = ((0, 0), (1, 1))
        self.gives((((0, 0),), (), (), (), row), kept_run, task, (row,) * 5)
        self.gives((((0, 0), (1, 2)), (), (), (), row), kept_run, task, (((0, 0), (1, 2)),) + (row,) * 4)
        # Whoever comes behind is not kept out by those who are not kept.
        self.gives(((), ((0, 2),), ((0, 2), (1, 3)), (), ((0, 3),)), kept_run, task,
                   (((2, 0), (0, 2)), ((0, 2), (1, 4)), ((0, 2), (1, 3), (1, 5)), ((0, 1), (1, 2)), ((0, 3), (1, 4))))
        self.gives((((0, 0),), ((0, 0),), (), (), ()), kept_run, task,
                   (((0, 0), (1, 0)), ((0, 0), (0, 1)), ((0, 0),), ((1, 0),), ((1, 3), (0, 0))))

    def test_drawn(self):
        draw = random.Random(153)
        whole = 0
        for _ in range(400):
            task = draw_task(draw, people=5)
            house, people, now, end = task
            if not house[1]:
                continue
            run = [sorted([(draw.randrange(len(house[1])), draw.randint(now, end)) for _ in range(draw.randrange(4))],
                          key=lambda entry: entry[1]) for _ in people]
            run = tuple([tuple(row) for row in run])
            told = kept_run(task, run)
            self.gives(keep_by_hand(task, run), kept_run, task, run)
            self.assertTrue(run_holds(task, told))
            self.assertEqual(told == run, run_holds(task, run))
            whole += told == run
            best = soonest_run(task)
            self.gives(best, kept_run, task, best)
        self.assertGreater(whole, 20)


class Best(Case):
    """[51]."""

    def check_best(self, task, flow, numbers):
        told = led_best(task, flow)
        self.gives(told, led_best, task, flow)
        self.assertTrue(flow_holds(task, told))
        self.assertEqual(flow_out(task, told), numbers)
        # Who was out is so again; what was best already stays.
        self.assertLessEqual(set(people_of(task, flow)), set(people_of(task, told)))
        if flow_out(task, flow) == numbers:
            self.assertEqual(told, flow)

    def test_small(self):
        self.assertEqual(out_by(TWO, led_run(TWO, [[(1, 3)], [(1, 2)]])), (0, 1, 2, 2, 2))
        self.gives(led_run(TWO, [[(1, 3)], [(1, 2)]]), led_run, TWO, (((1, 3),), ((1, 2),)))
        self.check_best(TWO, run_flow(TWO, (((1, 3),), ((1, 2),))), (0, 1, 2, 2, 2))
        self.check_best(TWO, run_flow(TWO, (((1, 2),), ((0, 2),))), (0, 1, 2, 2, 2))
        self.check_best(TWO, run_flow(TWO, ((), ())), (0, 1, 2, 2, 2))
        self.gives((), led_run, (HOUSE, (), 0, 4), ())
        self.gives(((),), led_run, (HOUSE, ((1, 3, 0),), 3, 3), ((),))
        self.gives((0,) * ARCS, led_best, FLOWING[:1] + ((), 0, 3), (0,) * ARCS)

    def test_with_people_in_ways_out(self):
        house = ((0, 1, 1), ((0, 1, 1, 1, ()), (0, 2, 2, 1, ())), (None,) * 3)
        task = (house, ((1, 0, 0), (2, 1, 0), (0, 0, 0), (0, 0, 0), (1, 9, 0)), 0, 4)
        for rows in (((), ()), (((1, 0),), ()), (((1, 1),), ((1, 2),)), (((0, 3),), ((1, 2),))):
            run = ((), ()) + rows + ((),)
            self.check_best(task, run_flow(task, run), (1, 3, 4, 4, 4))

    def test_all_runs(self):
        draw = random.Random(154)
        for _ in range(100):
            task, runs = small_task(draw, people=4)
            numbers = most_by_beat(task, [out_beats(task, run) for run in runs])
            for run in draw.sample(runs, min(len(runs), 8)):
                self.check_best(task, run_flow(task, run), numbers)
                self.check_run(task, run, numbers)

    def check_run(self, task, run, numbers):
        told = led_run(task, run)
        self.gives(told, led_run, task, run)
        self.assertTrue(run_holds(task, told))
        self.assertEqual(out_by(task, told), numbers)

    def test_any_rows_of_entries(self):
        draw = random.Random(155)
        for _ in range(150):
            task = draw_task(draw, people=7, rooms=6, passages=9, beats=8)
            house, people, now, end = task
            if house[1]:
                run = tuple([tuple([(draw.randrange(len(house[1])), draw.randint(now, end)) for _ in range(draw.randrange(4))])
                             for _ in people])
                self.check_run(task, run, soonest(task))
                # A plan for a house in which some passages were no way yet.
                other = (house[0], house[1][:len(house[1]) // 2] + tuple([row[:3] + (0, ()) for row in house[1][len(house[1]) // 2:]]),
                         (None,) * len(house[0]))
                self.check_run(task, soonest_run((other,) + task[1:]), soonest(task))

    def test_great(self):
        began = time.monotonic()
        for crowded in (False, True):
            for people, end in ((20, 30), (60, 59)):
                task = great_task(156, people=people, end=end, crowded=crowded)
                numbers = soonest(task)
                draw = random.Random(157)
                run = tuple([tuple([(draw.randrange(60), draw.randint(0, end)) for _ in range(8)]) for _ in range(people)])
                self.check_run(task, run, numbers)
                self.check_best(task, (0,) * len(arcs_of(task)), numbers)
                self.check_best(task, soonest_flow(task), numbers)
                later, rest = behind(task, plan(task)[1])
                self.assertEqual(out_by(later, rest), numbers[1:])
                self.assertEqual(len([beat for beat in outs(later, led_run(later, rest)) if beat is not None]), numbers[-1])
        self.assertLess(time.monotonic() - began, 60)


if __name__ == "__main__":
    unittest.main()
