"""Lots that can be out, the first one, exchange, and why somebody is not of it: [33] to [36]."""

import random
import time
import unittest

from outsoonest.errors import NoBeat, Refused
from outsoonest.lots import added, can_be_out, crowd_holds, first_out, left_papers, most_out
from outsoonest.soonest import soonest
from tests.draws import (all_cuts, all_lots, draw_task, first_of_all, great_task, holding, lets_out, lots_out, most_by_beat,
                         order_of, out_beats, small_task, smoky)
from tests.helping import STRANGE, Case, deep
from tests.test_cuts import NO_BEATS, NO_CUTS
from tests.test_unrolled import NO_TASKS, TASK

HOUSE = ((0, 0, 1, 0), ((1, 0, 1, 1, ()), (0, 2, 1, 1, ()), (3, 0, 1, 2, ()), (3, 2, 4, 1, ())), (None,) * 4)
FOUR = (HOUSE, ((1, 0, 2), (1, 0, 0), (3, 0, 1), (3, 0, 0)), 0, 5)

NO_LOTS = STRANGE + ((4,), (0, 0), (1, 0), (True,), (False, 1), (None,), (0, 1, 2, 3, 4), ("0",), ((0,),), 0, (0, "1"))
CALLS = ((most_out, ()), (can_be_out, (None,)), (first_out, ()), (added, (None, None)), (left_papers, ()), (crowd_holds, (None,)))


def crowd_is_so(task, beat, persons, cut):
    """Whether a cut holds all of some persons, and lets out fewer of them alone, by the words of the document."""
    held = all(holding(cut, task[1][person][0], task[1][person][1]) for person in persons)
    return held and lets_out(task, beat, cut, persons) < len(persons)


class Refusing(Case):
    def test_tasks_and_beats(self):
        for call, more in CALLS:
            for value in NO_TASKS:
                self.told(Refused, value, call, value, None, *more)
            self.refuses(NoBeat, call, (TASK, 0) + more, 1, NO_BEATS)
            self.refuses(NoBeat, call, ((TASK[0], ((0, 3, 0),), 2, 3), 0) + more, 1, (0, 1, 4))

    def test_lots(self):
        self.refuses(Refused, can_be_out, (FOUR, 4, ()), 2, NO_LOTS)
        self.refuses(Refused, added, (FOUR, 4, (), None), 2, NO_LOTS)
        self.refuses(Refused, added, (FOUR, 4, (), (0,)), 3, NO_LOTS)

    def test_lots_that_are_no_greater_or_not_out(self):
        # By beat 3 two can be out, of 0 and 1 one alone.
        self.refuses(Refused, added, (FOUR, 3, (), None), 2, ((0, 1, 2), (0, 1, 2, 3)))
        self.refuses(Refused, added, (FOUR, 3, (0,), None), 3, ((), (0,), (3,), (0, 1, 2), (0, 1, 2, 3)))
        self.refuses(Refused, added, (FOUR, 3, (1, 3), None), 3, ((), (0,), (1, 3), (0, 2), (2, 3)))
        self.refuses(Refused, added, (FOUR, 1, (), None), 3, ((), (0,), (1,)))

    def test_judged_is_any_value(self):
        right = ("crowd", (0, 1, 3), (1, 0, None, 0))
        self.gives(True, crowd_holds, FOUR, 3, right)
        for value in STRANGE + ((), right[:2], right + (0,), ("crowds",) + right[1:], (0,) + right[1:], (None,) + right[1:],
                                (("crowd",),) + right[1:], ("nowhere",), right[::-1]):
            self.gives(False, crowd_holds, FOUR, 3, value)
        for value in NO_LOTS:
            self.gives(False, crowd_holds, FOUR, 3, ("crowd", value, right[2]))
        for value in NO_CUTS + ((1, 0, 0, 0), (1, 0, None), (1, 0, None, 60)):
            self.gives(False, crowd_holds, FOUR, 3, ("crowd", right[1], value))
        self.gives(False, crowd_holds, FOUR, 3, ("crowd", deep(40), deep(40)))


class Out(Case):
    """[33], [34]."""

    def test_small(self):
        for beat, many in enumerate((0, 0, 1, 2, 4, 4)):
            self.gives(many, most_out, FOUR, beat)
        for beat, lot in enumerate(((), (), (1,), (1, 3), (0, 1, 2, 3), (0, 1, 2, 3))):
            self.gives(lot, first_out, FOUR, beat)
        for lot, told in (((), True), ((0, 2), True), ((2, 3), True), ((0, 1), True), ((0, 1, 2), False), ((0, 1, 2, 3), False)):
            self.gives(told, can_be_out, FOUR, 3, lot)

    def test_edges(self):
        nobody = (HOUSE, (), 0, 5)
        self.gives(0, most_out, nobody, 5)
        self.gives((), first_out, nobody, 5)
        self.gives(True, can_be_out, nobody, 0, ())
        for at in (0, 59):
            task = (HOUSE, ((2, at, 9), (0, at, 0), (2, at, 3)), at, at)
            self.gives(2, most_out, task, at)
            self.gives((0, 2), first_out, task, at)
            self.gives(True, can_be_out, task, at, (0, 2))
            self.gives(False, can_be_out, task, at, (1,))
        # Who begins in a way out, in smoke, behind the beat, behind the end; passages shut and of no width.
        house = ((0, 1, 0, 0), ((0, 1, 1, 2, (1,)), (2, 1, 1, 0, ()), (3, 1, 1, 1, (0, 1, 2, 3))), (2, None, None, None))
        people = ((1, 3, 5), (0, 2, 0), (0, 3, 0), (0, 0, 9), (0, 1, 0), (2, 0, 0), (3, 0, 0), (1, 9, 0), (1, 0, 9))
        task = (house, people, 0, 5)
        for beat, lot in enumerate(((8,), (3, 8), (3, 8), (0, 3, 8), (0, 3, 8), (0, 3, 6, 8))):
            self.gives(lot, first_out, task, beat)
            self.gives(len(lot), most_out, task, beat)
            for person in range(len(people)):
                self.gives(person in lot, can_be_out, task, beat, (person,))

    def test_all_runs(self):
        draw = random.Random(91)
        for _ in range(120):
            task, runs = small_task(draw, people=4)
            outs = [out_beats(task, run) for run in runs]
            for beat in range(task[2], task[3] + 1):
                can = lots_out(outs, len(task[1]), beat)
                first = first_of_all(task, can)
                self.gives(first, first_out, task, beat)
                self.gives(max(len(lot) for lot in can), most_out, task, beat)
                self.assertEqual(len(first), max(len(lot) for lot in can))
                self.assertEqual(first, self.taken(task, can))
                for lot in all_lots(range(len(task[1]))):
                    self.gives(lot in can, can_be_out, task, beat, lot)
            self.assertEqual(soonest(task), most_by_beat(task, outs))

    def taken(self, task, can):
        """The lot that is got by going through the people in their order."""
        lot = ()
        for person in order_of(task[1]):
            if tuple(sorted(lot + (person,))) in can:
                lot = tuple(sorted(lot + (person,)))
        return lot

    def test_lists(self):
        self.assertEqual(most_out(task=FOUR, beat=4), 4)
        self.assertEqual(can_be_out(task=FOUR, beat=4, lot=[0, 1]), True)
        self.assertEqual(first_out(beat=3, task=FOUR), (1, 3))


class Added(Case):
    """[35]."""

    def test_small(self):
        self.gives(1, added, FOUR, 3, (0,), (0, 1))
        self.gives(2, added, FOUR, 3, (), (2, 3))
        self.gives(2, added, FOUR, 3, (1,), (2, 3))
        self.gives(0, added, FOUR, 4, (1, 2, 3), (0, 1, 2, 3))
        # The least one that can, not the least: two rooms, each with a door for one.
        house = ((0, 0, 1), ((0, 2, 1, 1, ()), (1, 2, 1, 1, ())), (None,) * 3)
        task = (house, ((0, 0, 0), (0, 0, 0), (1, 0, 0)), 0, 1)
        self.gives(2, added, task, 1, (1,), (0, 2))
        self.gives(0, added, task, 1, (2,), (0, 2))

    def test_all_lots(self):
        draw = random.Random(92)
        for _ in range(60):
            task, runs = small_task(draw, people=4, rooms=3)
            outs = [out_beats(task, run) for run in runs]
            for beat in range(task[2], task[3] + 1):
                can = lots_out(outs, len(task[1]), beat)
                for lot in can:
                    for other in can:
                        if len(other) > len(lot):
                            fit = [one for one in other if one not in lot and tuple(sorted(lot + (one,))) in can]
                            self.gives(fit[0], added, task, beat, lot, other)

    def test_great(self):
        began = time.monotonic()
        task = great_task(93, people=20, crowded=True)
        lot = first_out(task, 59)
        for beat in (15, 25, 40, 59):
            other = first_out(task, beat)
            rest = tuple([person for person in range(20) if can_be_out(task, beat, (person,))][:1])
            if len(other) > len(rest):
                one = added(task, beat, rest, other)
                self.assertTrue(can_be_out(task, beat, tuple(sorted(rest + (one,)))))
        self.assertEqual(added(task, 59, (), lot), lot[0])
        self.assertLess(time.monotonic() - began, 30)


class Papers(Case):
    """[36]."""

    def test_small(self):
        self.gives(left_papers(FOUR, 3), left_papers, FOUR, 3)
        self.assertEqual([person for person, _ in left_papers(FOUR, 3)], [2, 0])
        self.gives((), left_papers, FOUR, 4)
        house = ((0, 1, 0), ((0, 1, 1, 1, ()),), (2, None, None))
        people = ((0, 2, 4), (0, 3, 3), (1, 4, 2), (2, 0, 0), (1, 9, 0), (0, 0, 1), (0, 1, 9))
        nowhere = ("nowhere",)
        self.assertEqual(left_papers((house, people, 0, 5), 1)[1:],
                         ((4, nowhere), (2, nowhere), (1, nowhere), (0, nowhere), (6, ("crowd", (6,), (1, None, None)))))
        self.assertEqual(left_papers((house, people, 0, 5), 1)[0], (3, ("crowd", (3,), (None, None, 0))))
        self.gives((), left_papers, (house, (), 0, 5), 5)
        self.gives(((1, ("nowhere",)),), left_papers, (house, ((1, 0, 0), (0, 3, 0)), 0, 0), 0)

    def test_drawn(self):
        draw = random.Random(94)
        for _ in range(200):
            task = draw_task(draw, people=8, rooms=5, passages=7, beats=6)
            for beat in range(task[2], task[3] + 1):
                self.check_papers(task, beat)

    def check_papers(self, task, beat):
        lot, order = first_out(task, beat), order_of(task[1])
        papers = left_papers(task, beat)
        self.gives(papers, left_papers, task, beat)
        self.assertEqual([person for person, _ in papers], [person for person in order if person not in lot])
        for person, paper in papers:
            room, when, _ = task[1][person]
            if smoky(task[0], room, when) or when > beat:
                self.assertEqual(paper, ("nowhere",))
                continue
            word, persons, cut = paper
            ahead = [one for one in order[:order.index(person)] if one in lot]
            self.assertEqual(word, "crowd")
            self.assertTrue(person in persons and set(persons) <= set(ahead + [person]))
            self.assertTrue(crowd_is_so(task, beat, persons, cut))
            self.gives(True, crowd_holds, task, beat, paper)

    def test_all_crowds(self):
        draw = random.Random(95)
        for _ in range(30):
            task, runs = small_task(draw, people=3, rooms=3)
            outs = [out_beats(task, run) for run in runs]
            for beat in range(task[2], task[3] + 1):
                can = lots_out(outs, len(task[1]), beat)
                for persons in all_lots(range(len(task[1]))):
                    for cut in all_cuts(task, beat) + [tuple([None if kind else 59 for kind in task[0][0]])]:
                        told = crowd_is_so(task, beat, persons, cut)
                        self.assertIs(crowd_holds(task, beat, ("crowd", persons, cut)), told)
                        self.assertFalse(told and persons in can)

    def test_held_behind_the_beat(self):
        house = ((0, 1), ((0, 1, 1, 1, ()),), (3, None))
        task = (house, ((0, 9, 0), (0, 3, 0), (0, 0, 0), (0, 2, 0), (0, 4, 0)), 0, 4)
        for persons, cut, told in (((0,), (9, None), True), ((0,), (10, None), False), ((0,), (None, None), False),
                                   ((1,), (3, None), True), ((1,), (4, None), False), ((2,), (0, None), False), ((3,), (2, None), False),
                                   ((2, 3), (0, None), False), ((1, 2, 3), (0, None), False), ((1, 3), (2, None), True),
                                   ((1, 4), (3, None), True), ((), (0, None), False), ((), (None, None), False)):
            self.gives(told, crowd_holds, task, 4, ("crowd", persons, cut))
        self.gives(True, crowd_holds, task, 1, ("crowd", (3,), (2, None)))
        self.gives(False, crowd_holds, task, 1, ("crowd", (2,), (0, None)))
        self.gives(True, crowd_holds, task, 0, ("crowd", (2,), (0, None)))

    def test_great(self):
        began = time.monotonic()
        for crowded in (False, True):
            task = great_task(96, crowded=crowded)
            for beat in (0, 12, 25, 40, 59):
                self.check_papers(task, beat)
                lot = first_out(task, beat)
                self.assertEqual(len(lot), soonest(task)[beat])
                self.assertTrue(can_be_out(task, beat, lot))
        self.assertLess(time.monotonic() - began, 60)


if __name__ == "__main__":
    unittest.main()
