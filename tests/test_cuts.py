"""Cuts, what they let out, best ones, and two of them: [29] to [32]."""

import random
import time
import unittest

from outsoonest.cuts import (begin_outside, both_held, cut_at, cut_holds, cut_lets, cut_wide, either_held, held_nodes, is_held,
                             lies_within, meets, passed)
from outsoonest.errors import NoBeat, NoPerson, Refused
from outsoonest.runs import out_by
from outsoonest.soonest import soonest, soonest_run, walls_of
from outsoonest.unrolled import nodes_of
from tests.draws import (all_cuts, draw_task, great_task, held_places, holding, lets_out, most_by_beat, out_beats,
                         out_numbers, passed_rows, small_task, smoky)
from tests.helping import STRANGE, Case
from tests.test_runs import FAULTY, NO_RUNS, RUN
from tests.test_unrolled import NO_TASKS, TASK

CUT = (0, 1, None)
NO_CUTS = STRANGE + ((), (None, None), (None,) * 4, (None, None, 0), (0, 1, 5), (60, None, None), (-1, 0, None), (None, True, None),
                     (False, None, None), (None, "0", None), ((0,), None, None), 0, (0, 1, ()), ((0, 1, None),))
# The beats of TASK are 0 to 4.
NO_BEATS = STRANGE + (5, 59, 60, -1, (0,), (0, 0), "1", (None,))

WITH_BEAT = ((begin_outside, (None,)), (passed, (None,)), (cut_lets, (None,)), (meets, (None, None)), (cut_holds, (None,)),
             (cut_at, ()), (cut_wide, ()), (lies_within, (None, None)))
WITHOUT = ((is_held, (None, None)), (held_nodes, (None,)), (both_held, (None, None)), (either_held, (None, None)))


class Refusing(Case):
    def test_tasks(self):
        for value in NO_TASKS:
            for call, more in WITH_BEAT:
                self.told(Refused, value, call, value, None, *more)
            for call, more in WITHOUT:
                self.told(Refused, value, call, value, *more)

    def test_beats(self):
        # Ahead of the cuts, that are none either.
        for call, more in WITH_BEAT:
            self.refuses(NoBeat, call, (TASK, 0) + more, 1, NO_BEATS)
            self.refuses(NoBeat, call, ((TASK[0], ((0, 3, 0),), 2, 3), 0) + more, 1, (0, 1, 4))

    def test_cuts(self):
        for call in (begin_outside, passed, cut_lets):
            self.refuses(Refused, call, (TASK, 4, CUT), 2, NO_CUTS)
        self.refuses(Refused, lies_within, (TASK, 4, CUT, None), 2, NO_CUTS)
        self.refuses(Refused, lies_within, (TASK, 4, CUT, CUT), 3, NO_CUTS)
        self.refuses(Refused, held_nodes, (TASK, CUT), 1, NO_CUTS)
        for call in (both_held, either_held):
            self.refuses(Refused, call, (TASK, CUT, None), 1, NO_CUTS)
            self.refuses(Refused, call, (TASK, CUT, CUT), 2, NO_CUTS)
        self.refuses(Refused, is_held, (TASK, CUT, None), 1, NO_CUTS)
        self.refuses(NoPerson, is_held, (TASK, CUT, 0), 2, STRANGE + (3, 60, (0,)))

    def test_judged_are_any_values(self):
        for value in NO_CUTS:
            self.gives(False, cut_holds, TASK, 4, value)
            self.gives(False, meets, TASK, 4, RUN, value)
        for value in NO_RUNS + tuple([run for run, _ in FAULTY]):
            self.gives(False, meets, TASK, 4, value, CUT)
        self.gives(False, meets, TASK, 4, CUT, RUN)


class Held(Case):
    """[29]."""

    def test_small(self):
        for person, told in ((0, True), (1, True), (2, True)):
            self.gives(told, is_held, TASK, CUT, person)
        for cut, told in (((None,) * 3, (False,) * 3), ((0, 2, None), (True, True, False)), ((1, None, None), (False,) * 3),
                          ((59, 59, None), (False,) * 3)):
            self.assertEqual(tuple([is_held(TASK, cut, person) for person in range(3)]), told)
        # Room 0 has smoke from beat 3 on, so five beats of room 1 and three of room 0 are places.
        self.gives((), held_nodes, TASK, (None,) * 3)
        self.gives((), held_nodes, TASK, (59, 5, None))
        self.gives((), held_nodes, TASK, (3, None, None))
        self.gives((0, 1, 3, 4, 6, 7, 9, 11), held_nodes, TASK, (0, 0, None))
        self.gives((4, 6, 7, 9, 11), held_nodes, TASK, (2, 1, None))

    def test_in_smoke_and_elsewhere(self):
        task = (((0, 1), (), (2, None)), ((0, 2, 0), (0, 7, 0), (0, 1, 0), (1, 0, 0)), 0, 3)
        for cut, told in (((2, None), (True, True, False, False)), ((7, None), (False, True, False, False)),
                          ((8, None), (False,) * 4), ((None, None), (False,) * 4), ((0, None), (True, True, True, False))):
            for person in range(4):
                self.gives(told[person], is_held, task, cut, person)

    def test_drawn(self):
        draw = random.Random(81)
        for _ in range(150):
            task = draw_task(draw)
            for cut in draw.sample(all_cuts(task, task[3]), min(5, len(all_cuts(task, task[3])))):
                held = held_places(task, task[3], cut)
                self.gives(tuple([at for at, place in enumerate(nodes_of(task)) if place in held]), held_nodes, task, cut)
                for person, (room, beat, _) in enumerate(task[1]):
                    self.gives(holding(cut, room, beat), is_held, task, cut, person)


class Lets(Case):
    """[30]."""

    def test_small(self):
        self.gives(((1, 1, 1), (1, 3, 1)), passed, TASK, 4, CUT)
        self.gives(((1, 1, 1),), passed, TASK, 3, CUT)
        self.gives((), passed, TASK, 1, CUT)
        self.gives((), begin_outside, TASK, 4, CUT)
        self.gives(2, cut_lets, TASK, 4, CUT)
        self.gives((0, 1), begin_outside, TASK, 0, (None,) * 3)
        self.gives((0, 1, 2), begin_outside, TASK, 1, (None,) * 3)
        self.gives(3, cut_lets, TASK, 4, (None,) * 3)
        self.gives((), passed, TASK, 4, (None,) * 3)
        self.gives((2,), begin_outside, TASK, 4, (0, 4, None))
        # By beat, then by passage; both passages of beat 1 and 2.
        house = ((0, 0, 1), ((1, 2, 1, 4, ()), (0, 2, 1, 3, ()), (1, 2, 1, 0, ()), (0, 2, 4, 1, ()), (0, 1, 1, 9, ())), (None,) * 3)
        self.gives(((0, 1, 4), (1, 1, 3), (0, 2, 4), (1, 2, 3)), passed, (house, (), 1, 9), 3, (0, 1, None))
        self.gives(((1, 1, 3), (4, 1, 9), (1, 2, 3), (4, 2, 9)), passed, (house, (), 1, 9), 3, (1, None, None))
        self.gives((), passed, (house, (), 0, 9), 0, (0, 0, None))

    def test_smoke_ways_out_and_later_beats(self):
        house = ((0, 1), ((0, 1, 2, 3, ()),), (2, None))
        people = ((0, 2, 0), (0, 1, 0), (1, 1, 0), (1, 3, 0), (0, 0, 0), (1, 9, 0))
        self.gives((1, 2, 4), begin_outside, (house, people, 0, 4), 2, (None, None))
        self.gives((1, 2, 3, 4), begin_outside, (house, people, 0, 4), 4, (None, None))
        self.gives((2, 4), begin_outside, (house, people, 0, 4), 2, (1, None))
        self.gives(((0, 0, 3), (0, 1, 3)), passed, (house, people, 0, 4), 4, (0, None))
        self.gives(((0, 0, 3),), passed, (house, people, 0, 4), 2, (0, None))
        # One begins outside, and three may go through.
        self.gives(4, cut_lets, (house, people, 0, 4), 2, (0, None))

    def test_drawn(self):
        draw = random.Random(82)
        for _ in range(150):
            task = draw_task(draw, people=5)
            for beat in range(task[2], task[3] + 1):
                cuts = all_cuts(task, beat)
                for cut in draw.sample(cuts, min(4, len(cuts))):
                    outside = [person for person, (room, when, _) in enumerate(task[1])
                               if when <= beat and not smoky(task[0], room, when) and not holding(cut, room, when)]
                    self.gives(tuple(outside), begin_outside, task, beat, cut)
                    self.gives(tuple(passed_rows(task, beat, cut)), passed, task, beat, cut)
                    self.gives(lets_out(task, beat, cut), cut_lets, task, beat, cut)

    def test_all_runs_and_cuts(self):
        draw = random.Random(83)
        for _ in range(40):
            task, runs = small_task(draw, rooms=3)
            told = most_by_beat(task, [out_beats(task, run) for run in runs])
            for beat in range(task[2], task[3] + 1):
                for cut in all_cuts(task, beat):
                    self.assertLessEqual(told[beat - task[2]], cut_lets(task, beat, cut))


class Best(Case):
    """[31]."""

    def test_small(self):
        self.gives(CUT, cut_at, TASK, 2)
        self.gives(CUT, cut_wide, TASK, 2)
        self.gives(True, meets, TASK, 4, RUN, CUT)
        self.gives(False, meets, TASK, 4, RUN, (0, 0, None))
        self.gives(False, meets, TASK, 4, RUN, (0, None, None))
        self.gives(False, meets, TASK, 4, ((),) * 3, CUT)
        # At the first beats nobody can be out, whoever is held.
        self.gives(True, meets, TASK, 0, ((),) * 3, (0, 0, None))
        self.gives((0, None, None), cut_at, TASK, 0)
        self.gives((0, 0, None), cut_wide, TASK, 0)
        self.gives((0, 1, None), cut_at, TASK, 1)
        self.gives((0, 1, None), cut_wide, TASK, 1)

    def test_edges(self):
        nobody = (TASK[0], (), 0, 4)
        self.gives((None,) * 3, cut_at, nobody, 4)
        # Places from which nobody can be out by the beat any more.
        self.gives((None, 4, None), cut_wide, nobody, 4)
        self.gives(True, cut_holds, nobody, 4, (None,) * 3)
        self.gives(True, cut_holds, nobody, 4, (59, 59, None))
        self.gives(False, cut_holds, nobody, 4, (0, 0, None))
        smoky_house = ((0, 0, 1), ((0, 2, 1, 1, ()), (1, 2, 1, 1, ())), (0, None, None))
        self.gives((None, None, None), cut_at, (smoky_house, ((0, 0, 0), (0, 1, 0)), 0, 3), 3)
        self.gives((None, 3, None), cut_wide, (smoky_house, ((0, 0, 0), (0, 1, 0)), 0, 3), 3)
        self.gives(True, cut_holds, (smoky_house, ((0, 0, 0),), 0, 3), 3, (0, None, None))
        for at in (0, 7, 59):
            task = (((0, 1), ((0, 1, 1, 1, ()),), (None, None)), ((0, at, 0), (1, at, 0)), at, at)
            self.gives((at, None), cut_at, task, at)
            self.gives((at, None), cut_wide, task, at)
            self.gives(True, cut_holds, task, at, (0, None))
            self.gives(False, cut_holds, task, at, (None, None))
            self.gives(True, meets, task, at, ((), ()), (0, None))
        self.gives((None,), cut_at, (((1,), (), (None,)), ((0, 0, 0),), 0, 2), 1)
        # Shut, or of width 0: what leads nowhere is held, if somebody is there.
        house = ((0, 0, 1), ((0, 2, 1, 0, ()), (1, 2, 1, 1, (0, 1, 2))), (None,) * 3)
        self.gives((1, 0, None), cut_at, (house, ((0, 1, 0), (1, 0, 0)), 0, 3), 3)
        self.gives((0, 0, None), cut_wide, (house, ((0, 1, 0), (1, 0, 0)), 0, 3), 3)
        self.gives((1, None, None), cut_at, (house, ((0, 1, 0), (1, 0, 0)), 0, 4), 4)

    def test_all_runs_and_cuts(self):
        draw = random.Random(84)
        for _ in range(60):
            task, runs = small_task(draw, rooms=3)
            told = most_by_beat(task, [out_beats(task, run) for run in runs])
            for beat in range(task[2], task[3] + 1):
                self.check_beat(draw, task, runs, beat, told[beat - task[2]])

    def check_beat(self, draw, task, runs, beat, most):
        cuts = all_cuts(task, beat)
        sums = [lets_out(task, beat, cut) for cut in cuts]
        self.assertEqual(min(sums), most)
        best = [cut for cut, many in zip(cuts, sums) if many == most]
        places = [held_places(task, beat, cut) for cut in best]
        least, widest = set.intersection(*places), set.union(*places)
        self.gives(firsts(task, least), cut_at, task, beat)
        self.gives(firsts(task, widest), cut_wide, task, beat)
        for cut, many in zip(cuts, sums):
            self.assertIs(cut_holds(task, beat, cut), many == most)
        for cut, many in draw.sample(list(zip(cuts, sums)), min(len(cuts), 6)):
            run = draw.choice(runs)
            self.gives(out_numbers(task, run)[beat - task[2]] == many, meets, task, beat, run, cut)
        self.gives(True, meets, task, beat, soonest_run(task), cut_at(task, beat))
        self.gives(True, meets, task, beat, soonest_run(task), cut_wide(task, beat))

    def test_walls_are_cuts(self):
        draw = random.Random(85)
        for _ in range(60):
            task = draw_task(draw, people=6, rooms=6, passages=9, beats=8)
            for beat, lot in zip(range(task[2], task[3] + 1), walls_of(task)):
                held = [nodes_of(task)[node] for node in lot if nodes_of(task)[node][1] <= beat]
                self.gives(firsts(task, held), cut_at, task, beat)


def firsts(task, places):
    """By room the first beat of some places, None if there are none."""
    return tuple([min([beat for at, beat in places if at == room], default=None) for room in range(len(task[0][0]))])


class Two(Case):
    """[32]."""

    def test_small(self):
        for cut, other, later, earlier in (
                ((None, 1, None), (2, None, None), (None,) * 3, (2, 1, None)), ((0, 59, None), (3, 2, None), (3, 59, None), (0, 2, None)),
                ((None,) * 3, (None,) * 3, (None,) * 3, (None,) * 3), ((4, 0, None), (4, 0, None), (4, 0, None), (4, 0, None))):
            for pair in ((cut, other), (other, cut)):
                self.gives(later, both_held, TASK, *pair)
                self.gives(earlier, either_held, TASK, *pair)
        task = (TASK[0], (), 1, 4)
        for cut, other, beat, told in (
                ((None,) * 3, (None,) * 3, 4, True), ((1, 3, None), (1, 2, None), 4, True), ((1, 3, None), (1, 4, None), 4, False),
                ((1, 3, None), (1, 4, None), 3, False), ((1, 3, None), (1, 4, None), 2, True), ((1, 3, None), (1, None, None), 2, True),
                ((1, 3, None), (None, 0, None), 2, False), ((0, 0, None), (1, 1, None), 4, True), ((3, 59, None), (None,) * 3, 4, True),
                ((2, None, None), (3, None, None), 4, False), ((1, 3, None), (0, 0, None), 4, True)):
            self.gives(told, lies_within, task, beat, cut, other)

    def test_all_best_cuts(self):
        draw = random.Random(86)
        for _ in range(40):
            task = draw_task(draw, people=3, rooms=3)
            told = soonest(task)
            for beat in range(task[2], task[3] + 1):
                cuts = all_cuts(task, beat)
                best = [cut for cut in cuts if lets_out(task, beat, cut) == told[beat - task[2]]]
                for _ in range(5):
                    one, other = draw.choice(best), draw.choice(best)
                    self.gives(True, cut_holds, task, beat, both_held(task, one, other))
                    self.gives(True, cut_holds, task, beat, either_held(task, one, other))
                    self.gives(True, lies_within, task, beat, cut_at(task, beat), one)
                    self.gives(True, lies_within, task, beat, one, cut_wide(task, beat))
                    one, other = draw.choice(cuts), draw.choice(cuts)
                    within = held_places(task, beat, one) <= held_places(task, beat, other)
                    self.gives(within, lies_within, task, beat, one, other)
                for later in range(beat, task[3] + 1):
                    self.gives(True, lies_within, task, beat, cut_at(task, later), cut_at(task, beat))


class Great(Case):
    def test_great(self):
        began = time.monotonic()
        for crowded in (False, True):
            task = great_task(87, crowded=crowded)
            told, run = soonest(task), soonest_run(task)
            self.assertEqual(out_by(task, run), told)
            for beat in range(0, 60, 7):
                self.gives(True, meets, task, beat, run, cut_at(task, beat))
                self.gives(True, cut_holds, task, beat, cut_wide(task, beat))
                self.assertEqual(lets_out(task, beat, cut_at(task, beat)), told[beat])
                self.assertTrue(lies_within(task, beat, cut_at(task, beat), cut_wide(task, beat)))
                self.gives(tuple(passed_rows(task, beat, cut_wide(task, beat))), passed, task, beat, cut_wide(task, beat))
        self.assertLess(time.monotonic() - began, 60)


if __name__ == "__main__":
    unittest.main()
