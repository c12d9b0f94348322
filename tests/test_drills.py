"""Drills: a run that was done, looked back on: [70] to [72]."""

import itertools
import random
import time
import unittest

from outsoonest.cuts import cut_at
from outsoonest.drills import (beat_falls, drill_holds, drill_papers, fall_table, first_fall, is_soonest, lost_in_all, most_still,
                               task_at)
from outsoonest.errors import NoBeat, Refused
from outsoonest.runs import run_holds
from outsoonest.soonest import soonest_run
from outsoonest.unrolled import check_task
from tests.draws import (all_cuts, all_runs, busy_task, followed, great_task, lets_out, most_by_beat, out_beats, out_numbers,
                         small_task)
from tests.helping import STRANGE, Case, deep
from tests.test_cuts import NO_BEATS, NO_CUTS
from tests.test_runs import FAULTY, NO_RUNS, RUN
from tests.test_unrolled import NO_TASKS, TASK

HOUSE = ((0, 0, 1), ((0, 1, 1, 2, ()), (1, 2, 1, 1, ())), (None, None, None))
TWO, LATE, BEST = (HOUSE, ((0, 0, 0), (0, 0, 1)), 0, 4), (((0, 1), (1, 2)), ((0, 2),)), (((0, 0), (1, 1)), ((0, 0), (1, 2)))
CALLS = ((task_at, 1), (most_still, 2), (beat_falls, 1), (first_fall, 1), (lost_in_all, 1), (drill_papers, 1), (drill_holds, 2),
         (fall_table, 0), (is_soonest, 0))


def still_by_runs(task, run, runs, beat, till):
    """How many are out by `till` at most by all runs that have done the same till the beat."""
    def ahead(rows):
        return [tuple([entry for entry in row if entry[1] < beat]) for row in rows]

    return max([out_numbers(task, other)[till - task[2]] for other in runs if ahead(other) == ahead(run)])


def from_then_on(task, run, beat):
    """Everybody as the run has them at a beat, by the words of the document."""
    people = []
    for person, (room, begins, urgency) in enumerate(task[1]):
        there = followed(task, run[person], person)[beat]
        entered = [entry for entry in run[person] if entry[1] < beat]
        at = task[0][1][entered[-1][0]][1] if entered else room
        people.append((at, there[2] if there[0] == "within" else beat, urgency))
    return task[0], tuple(people), beat, task[3]


class Refusing(Case):
    def test_tasks_and_runs(self):
        for call, more in CALLS:
            for value in NO_TASKS:
                self.told(Refused, value, call, value, None, *(None,) * more)
            for value in NO_RUNS + tuple([run for run, _ in FAULTY]):
                self.told(Refused, value, call, TASK, value, *(None,) * more)

    def test_beats(self):
        for call, more in CALLS[:7]:
            for value in NO_BEATS:
                self.told(NoBeat, value, call, TASK, RUN, value, *(None,) * (more - 1))
            for value in (0, 1, 5):
                self.told(NoBeat, value, call, (HOUSE, (), 2, 4), (), value, *(None,) * (more - 1))
        self.refuses(NoBeat, most_still, (TASK, RUN, 2, 0), 3, NO_BEATS + (0, 1))
        self.told(NoBeat, 4, most_still, (HOUSE, (), 2, 3), (), 4, 0)
        self.told(NoBeat, 2, most_still, (HOUSE, (), 2, 4), (), 3, 2)
        self.gives(2, most_still, TASK, RUN, 4, 4)

    def test_names(self):
        self.assertEqual(task_at(beat=4, run=LATE, task=TWO)[1:], (((2, 4, 0), (1, 4, 1)), 4, 4))
        self.assertEqual(most_still(till=4, beat=3, run=LATE, task=TWO), 2)
        self.assertEqual(beat_falls(till=3, run=LATE, task=TWO), (1, 0, 0))
        self.assertEqual(first_fall(till=3, run=LATE, task=TWO), 0)
        self.assertEqual(lost_in_all(till=3, run=LATE, task=TWO), 1)
        self.assertEqual(len(fall_table(run=LATE, task=TWO)), 5)
        self.assertIs(is_soonest(run=BEST, task=TWO), True)
        self.assertIs(drill_holds(value=drill_papers(till=3, run=LATE, task=TWO), till=3, run=LATE, task=TWO), True)


class Still(Case):
    """[70]."""

    def test_small(self):
        self.gives((HOUSE, ((1, 2, 0), (0, 2, 1)), 2, 4), task_at, TWO, LATE, 2)
        self.gives((HOUSE, ((0, 1, 0), (0, 1, 1)), 1, 4), task_at, TWO, LATE, 1)
        for beat, many in enumerate((2, 1, 1, 1)):
            self.gives(many, most_still, TWO, LATE, beat, 3)
        for beat, many in enumerate((2, 2, 2, 2, 1)):
            self.gives(many, most_still, TWO, LATE, beat, 4)

    def test_everybody(self):
        # Out ahead, out later, lost ahead, lost later, within a passage also behind the end, to come, leaving now.
        house = ((0, 0, 1), ((0, 1, 2, 1, ()), (1, 2, 1, 1, ()), (0, 2, 9, 1, ())), (4, 2, None))
        people = ((1, 1, 0), (2, 4, 1), (1, 1, 2), (0, 2, 3), (0, 1, 4), (0, 9, 5), (0, 1, 6), (1, 5, 7), (0, 1, 8))
        run = (((1, 1),), (), (), (), ((2, 1),), (), ((0, 3),), (), ((0, 1),))
        task = (house, people, 1, 6)
        for beat, there in ((1, people),
                            (2, ((2, 2, 0), (2, 4, 1), (1, 2, 2), (0, 2, 3), (2, 10, 4), (0, 9, 5), (0, 2, 6), (1, 5, 7), (1, 3, 8))),
                            (3, ((2, 3, 0), (2, 4, 1), (1, 3, 2), (0, 3, 3), (2, 10, 4), (0, 9, 5), (0, 3, 6), (1, 5, 7), (1, 3, 8))),
                            (6, ((2, 6, 0), (2, 6, 1), (1, 6, 2), (0, 6, 3), (2, 10, 4), (0, 9, 5), (1, 6, 6), (1, 6, 7), (1, 6, 8)))):
            self.gives((house, there, beat, 6), task_at, task, run, beat)
        for beat in range(1, 7):
            self.gives(2 if beat < 7 else 1, most_still, task, run, beat, 6)
            self.gives(1, most_still, task, run, min(beat, 3), 3)

    def test_edges(self):
        for at in (0, 50):
            nobody = (HOUSE, (), at, at)
            self.gives(nobody, task_at, nobody, (), at)
            self.gives(0, most_still, nobody, (), at, at)
            self.gives((), beat_falls, nobody, (), at)
            self.gives(None, first_fall, nobody, (), at)
            self.gives(0, lost_in_all, nobody, (), at)
            self.gives(((),), fall_table, nobody, ())
            self.gives(True, is_soonest, nobody, ())
            self.gives((((None,) * 3, ()),), drill_papers, nobody, (), at)
            self.gives(True, drill_holds, nobody, (), at, (((None,) * 3, ()),))
            out = (HOUSE, ((2, at, 0), (2, at, 3), (0, at, 0)), at, at)
            self.gives(2, most_still, out, ((), (), ()), at, at)
            self.gives(0, lost_in_all, out, ((), (), ()), at)
        far = (HOUSE[0], ((0, 2, 9, 1, ()),), HOUSE[2])
        self.gives((far, ((2, 58, 0),), 50, 50), task_at, (far, ((0, 49, 0),), 49, 50), (((0, 49),),), 50)


class Falls(Case):
    """[70], [71]."""

    def test_small(self):
        self.gives((1, 0, 0), beat_falls, TWO, LATE, 3)
        self.gives((0, 0, 0, 1), beat_falls, TWO, LATE, 4)
        self.gives(3, first_fall, TWO, LATE, 4)
        self.gives(1, lost_in_all, TWO, LATE, 4)
        self.gives(((), (0,), (1, 0), (1, 0, 0), (0, 0, 0, 1)), fall_table, TWO, LATE)
        self.gives(((), (0,), (0, 0), (0, 0, 0), (0, 0, 0, 0)), fall_table, TWO, BEST)
        self.gives(True, is_soonest, TWO, BEST)
        self.gives(False, is_soonest, TWO, LATE)
        # As many by the end, but later; and one that loses in the last beat alone.
        self.gives(False, is_soonest, TWO, (((0, 1), (1, 2)), ((0, 1), (1, 3))))
        self.gives(((), (0,), (0, 0), (0, 0, 1)), fall_table, TWO[:3] + (3,), (((0, 0), (1, 1)), ((0, 0),)))
        self.gives((0, 0, 1), beat_falls, TWO, (((0, 0), (1, 1)), ((0, 0),)), 3)
        self.gives((0, 0, 0, 1), beat_falls, TWO, (((0, 0), (1, 1)), ((0, 0),)), 4)

    def test_all_runs(self):
        draw = random.Random(211)
        lost = soon = 0
        for at in range(50):
            task, runs = busy_task(draw, 400, people=3, passages=4) if at % 2 else small_task(draw, 400, people=3)
            now, end = task[2], task[3]
            for run in draw.sample(runs, min(2, len(runs))) + [soonest_run(task)]:
                table = []
                for till in range(now, end + 1):
                    still = [still_by_runs(task, run, runs, beat, till) for beat in range(now, till + 1)]
                    for beat, many in zip(range(now, till + 1), still):
                        self.gives(many, most_still, task, run, beat, till)
                    falls = tuple([a - b for a, b in zip(still, still[1:])])
                    self.gives(falls, beat_falls, task, run, till)
                    fallen = [beat for beat, many in zip(range(now, till), falls) if many]
                    self.gives(fallen[0] if fallen else None, first_fall, task, run, till)
                    self.gives(still[0] - out_numbers(task, run)[till - now], lost_in_all, task, run, till)
                    self.assertTrue(min(falls, default=0) >= 0 and sum(falls) == lost_in_all(task, run, till))
                    table.append(falls)
                    lost += sum(falls)
                self.gives(tuple(table), fall_table, task, run)
                best = out_numbers(task, run) == most_by_beat(task, [out_beats(task, other) for other in runs])
                self.gives(best, is_soonest, task, run)
                self.assertEqual(best, not sum(map(sum, table)))
                soon += best
                for beat in range(now, end + 1):
                    self.gives(from_then_on(task, run, beat), task_at, task, run, beat)
        self.assertTrue(lost > 40 and soon > 40, (lost, soon))

    def test_great(self):
        draw = random.Random(212)
        for crowded in (False, True):
            task = great_task(213, crowded=crowded)[:3] + (50,)
            rows = [list(row) for row in soonest_run(task)]
            for _ in range(20):
                person = draw.randrange(60)
                rows[person] = rows[person][:draw.randrange(len(rows[person]) + 1)]
            began = time.monotonic()
            falls = beat_falls(task, rows, 50)
            self.assertEqual((len(falls), sum(falls)), (50, lost_in_all(task, rows, 50)))
            self.assertEqual(first_fall(task, rows, 50), [beat for beat, many in enumerate(falls) if many][0])
            papers = drill_papers(task, rows, 50)
            self.assertTrue(drill_holds(task, rows, 50, papers))
            self.assertLess(time.monotonic() - began, 20)
            short = (task[0], tuple([person for person in task[1] if person[1] == 0][:12]), 0, 12)
            began = time.monotonic()
            table = fall_table(short, ((),) * 12)
            self.assertEqual([len(row) for row in table], list(range(13)))
            self.assertEqual(sum(table[12]), lost_in_all(short, ((),) * 12, 12))
            self.assertLess(time.monotonic() - began, 10)


class Papers(Case):
    """[72]."""

    def test_drawn(self):
        draw = random.Random(214)
        for at in range(60):
            task, runs = busy_task(draw, 400, people=3, passages=4) if at % 2 else small_task(draw, 400, people=3)
            for run in draw.sample(runs, min(2, len(runs))):
                for till in range(task[2], task[3] + 1):
                    papers = drill_papers(task, run, till)
                    self.gives(papers, drill_papers, task, run, till)
                    self.gives(True, drill_holds, task, run, till, papers)
                    self.assertEqual(len(papers), till - task[2] + 1)
                    for beat, (cut, rest) in zip(range(task[2], till + 1), papers):
                        later = task_at(task, run, beat)
                        self.assertEqual(check_task(later), later)
                        self.assertEqual(cut, cut_at(later, till))
                        self.assertTrue(run_holds(later, rest))
                        many = out_numbers(later, rest)[till - beat]
                        self.assertEqual((many, many), (lets_out(later, till, cut), still_by_runs(task, run, runs, beat, till)))

    def test_all_pairs(self):
        draw = random.Random(215)
        good = 0
        for at in range(30):
            task, runs = (busy_task if at % 2 else small_task)(draw, 200, people=2, rooms=3, passages=3)
            run, till = draw.choice(runs), task[2] + min(1, task[3] - task[2])
            papers = drill_papers(task, run, till)
            for place, beat in enumerate(range(task[2], till + 1)):
                later = task_at(task, run, beat)
                pairs = list(itertools.product(all_cuts(later, till), all_runs(later, 10 ** 6)[:40]))
                for pair in draw.sample(pairs, min(60, len(pairs))):
                    value = papers[:place] + (pair,) + papers[place + 1:]
                    told = out_numbers(later, pair[1])[till - beat] == lets_out(later, till, pair[0])
                    self.assertIs(drill_holds(task, run, till, value), told)
                    good += told
        self.assertGreater(good, 60)

    def test_any_values(self):
        papers = drill_papers(TWO, LATE, 3)
        self.gives(True, drill_holds, TWO, LATE, 3, papers)
        self.gives(False, drill_holds, TWO, LATE, 2, papers)
        self.gives(False, drill_holds, TWO, LATE, 4, papers)
        for value in STRANGE + ((), papers[:3], papers + papers[:1], papers[::-1], tuple([pair[::-1] for pair in papers]), (papers,) * 4,
                                (None,) * 4, papers[0], ((),) * 4):
            self.gives(False, drill_holds, TWO, LATE, 3, value)
        for at in range(4):
            cut, run = papers[at]
            for pair in STRANGE + ((cut,), (cut, run, 0), (run, cut), deep(40)):
                self.gives(False, drill_holds, TWO, LATE, 3, papers[:at] + (pair,) + papers[at + 1:])
            for value in NO_CUTS:
                self.gives(False, drill_holds, TWO, LATE, 3, papers[:at] + ((value, run),) + papers[at + 1:])
            for value in STRANGE + (((),), ((), (), ()), (((0, 9),), ()), (((1, 0),), ()), (((0, 0), (1, 0)), ())):
                self.gives(False, drill_holds, TWO, LATE, 3, papers[:at] + ((cut, value),) + papers[at + 1:])


if __name__ == "__main__":
    unittest.main()
