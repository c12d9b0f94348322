"""Reasons: alone, why, who yields, and which widths tell: [67] to [69]."""

import itertools
import random
import time
import unittest

from outsoonest.cuts import cut_at, cut_lets
from outsoonest.errors import NoBeat, NoPerson, Refused
from outsoonest.lots import can_be_out, first_out
from outsoonest.reasons import alone, alone_cut, narrower, told_cut, why, why_holds, wider, yielding
from outsoonest.soonest import soonest, soonest_run
from tests.draws import (all_cuts, all_lots, all_rows, busy_task, followed, holding, lets_out, lots_out, most_by_beat, order_of, out_beats,
                         passed_rows, small_task, smoky)
from tests.helping import STRANGE, Case, deep
from tests.test_cuts import NO_BEATS, NO_CUTS
from tests.test_runs import FAULTY, NO_RUNS, RUN
from tests.test_unrolled import NO_TASKS, TASK
from tests.test_whatif import great_if

HOUSE = ((0, 0, 1), ((0, 1, 1, 1, ()), (1, 2, 1, 1, ())), (None, None, None))
TWO, BEST = (HOUSE, ((0, 0, 1), (0, 0, 0)), 0, 5), (((0, 1), (1, 2)), ((0, 0), (1, 1)))
NO_PERSONS = STRANGE + (3, 59, (0,), "1", (None,))


def until(told, beat):
    """By person when they are out by a beat, None if not."""
    return tuple([when if when is not None and when <= beat else None for when in told])


def outside(told):
    return tuple([person for person, when in enumerate(told) if when is not None])


def alone_beats(task, person):
    """By room the first beat at which one alone can be there, by all rows of entries."""
    first = [None] * len(task[0][0])
    for row in [row for row in all_rows(task, person) if all(task[0][1][passage][3] for passage, _ in row)]:
        for beat, place in enumerate(followed(task, row, person)[:task[3] + 1]):
            if place[0] in ("room", "out") and (first[place[1]] is None or beat < first[place[1]]):
                first[place[1]] = beat
    return first


class Refusing(Case):
    def test_tasks(self):
        for value in NO_TASKS:
            for call, more in ((alone, 1), (alone_cut, 1), (why, 3), (why_holds, 4), (told_cut, 2), (yielding, 3), (wider, 1), (narrower, 1)):
                self.told(Refused, value, call, value, *(None,) * more)

    def test_persons_and_beats(self):
        for call in (alone, alone_cut):
            self.refuses(NoPerson, call, (TASK, 0), 1, NO_PERSONS)
        for call, more in ((told_cut, (None,)), (yielding, (None, None)), (wider, ()), (narrower, ())):
            self.refuses(NoBeat, call, (TASK, 0) + more, 1, NO_BEATS)
            self.refuses(NoBeat, call, ((TASK[0], (), 2, 3), 0) + more, 1, (0, 1, 4))
        for call, more in ((why, ()), (why_holds, (None,))):
            for value in NO_PERSONS:
                self.told(NoPerson, value, call, TASK, RUN, value, None, *more)
            self.refuses(NoBeat, call, (TASK, RUN, 0, 0) + more, 3, NO_BEATS)

    def test_runs(self):
        for call, more in ((why, ()), (why_holds, (None,))):
            for value in NO_RUNS + tuple([run for run, _ in FAULTY]):
                self.told(Refused, value, call, TASK, value, None, None, *more)
            late = (((0, 1), (1, 3)), (), ())
            for run in (late, [list(row) for row in late], ((), (), ())):
                # Behind NoPerson and NoBeat; by beats by which it is as good as any it is let.
                self.told(NoPerson, 3, call, TASK, run, 3, None, *more)
                self.told(NoBeat, 5, call, TASK, run, 0, 5, *more)
                for beat, most in enumerate(soonest(TASK)):
                    if most > (beat >= 4 if run[0] else 0):
                        self.told(Refused, run, call, TASK, run, 0, beat, *more)
                    else:
                        call(TASK, run, 0, beat, *more)

    def test_lots_and_cuts(self):
        self.refuses(Refused, told_cut, (TASK, 0, ()), 2, NO_CUTS)
        # By beat 1 nobody can be out, by beat 2 one of 0 and 1, by beat 5 both.
        self.refuses(Refused, yielding, (TWO, 2, (), None), 2, STRANGE + ((2,), (1, 0), (0, 0), (True,), (0, None), 0, ("0",), (0, 1)))
        self.refuses(Refused, yielding, (TWO, 1, (), None), 2, ((0,), (1,), (0, 1)))
        self.refuses(NoPerson, yielding, (TWO, 2, (1,), 0), 3, STRANGE + (2, 59, (0,), "0"))
        self.refuses(Refused, yielding, (TWO, 2, (1,), 0), 3, (1,))
        self.refuses(Refused, yielding, (TWO, 5, (0, 1), 0), 3, (0, 1))
        self.refuses(NoPerson, yielding, ((HOUSE, (), 0, 5), 5, (), 0), 3, (0,))

    def test_names(self):
        self.assertEqual((alone(person=0, task=TWO), alone_cut(person=0, task=TWO)), (2, (0, 1, None)))
        self.assertEqual(why(beat=2, person=1, run=BEST, task=TWO), ("out", 2))
        self.assertIs(why_holds(value=("out", 2), beat=2, person=1, run=BEST, task=TWO), True)
        self.assertEqual(told_cut(cut=(0, 2, None), beat=2, task=TWO), (("enter", 0, 0, 1),))
        self.assertEqual(yielding(person=0, lot=[1], beat=2, task=TWO), (1,))
        self.assertEqual((wider(beat=2, task=TWO), narrower(beat=2, task=TWO)), ((), ((0, 0), (1, 1))))


class Alone(Case):
    """[67]."""

    def test_edges(self):
        # In smoke, behind the end, at the end, in a way out now and later, and whom only a way of no width leads out.
        house = ((0, 1, 0, 0), ((0, 1, 1, 2, (1,)), (2, 1, 1, 0, ()), (3, 0, 1, 1, ()), (3, 1, 4, 1, ())), (4, None, None, None))
        people = ((0, 4, 0), (0, 1, 0), (1, 0, 0), (1, 5, 0), (1, 6, 0), (2, 0, 0), (3, 0, 0), (3, 3, 0), (3, 5, 0), (3, 9, 0), (0, 9, 0))
        outs = (None, 3, 0, 5, None, None, 3, None, None, None, None)
        cuts = ((None,) * 4, (1, None, None, None), (None,) * 4, (None,) * 4, (None,) * 4, (None, None, 0, None), (1, None, None, 0),
                (None, None, None, 3), (None, None, None, 5), (None,) * 4, (None,) * 4)
        for person, (out, cut) in enumerate(zip(outs, cuts)):
            self.gives(out, alone, (house, people, 0, 5), person)
            self.gives(cut, alone_cut, (house, people, 0, 5), person)
        self.gives(59, alone, (house, ((1, 59, 0),), 59, 59), 0)
        self.gives(None, alone, (house, ((3, 59, 0),), 59, 59), 0)

    def test_all_rows(self):
        draw = random.Random(201)
        for _ in range(150):
            task, _ = small_task(draw, people=3)
            for person in range(len(task[1])):
                first = alone_beats(task, person)
                self.gives(min([first[room] for room, kind in enumerate(task[0][0]) if kind and first[room] is not None], default=None),
                           alone, task, person)
                self.gives(tuple([None if kind else beat for kind, beat in zip(task[0][0], first)]), alone_cut, task, person)


class Why(Case):
    """[68]."""

    def test_small(self):
        self.gives(("out", 2), why, TWO, BEST, 1, 2)
        self.gives(("out", 2), why, TWO, BEST, 1, 5)
        self.gives(("out", 3), why, TWO, BEST, 0, 3)
        self.assertEqual(why(TWO, BEST, 0, 2)[:2], ("instead", (1,)))
        self.assertEqual(why(TWO, BEST, 0, 1)[0], "never")
        self.gives(why(TWO, BEST, 0, 2), why, TWO, BEST, 0, 2)
        self.gives(why(TWO, BEST, 0, 1), why, TWO, BEST, 0, 1)
        # In a way out, in smoke, behind the beat, behind the end.
        house = (HOUSE[0], HOUSE[1], (3, None, None))
        task, run = (house, ((2, 1, 0), (0, 3, 0), (0, 2, 0), (2, 6, 0), (0, 0, 0)), 0, 5), ((), (), ((0, 2), (1, 3)), (), ((0, 0), (1, 1)))
        for beat in range(6):
            self.gives(("out", 1) if beat else ("never", (None,) * 3), why, task, run, 0, beat)
            self.gives(("never", (None,) * 3), why, task, run, 1, beat)
            self.gives(("never", (None,) * 3), why, task, run, 3, beat)
        self.gives(("never", (None,) * 3), why, task, run, 2, 1)
        self.gives(("never", (2, None, None)), why, task, run, 2, 2)
        self.gives(("never", (2, 3, None)), why, task, run, 2, 3)
        self.gives(("out", 4), why, task, run, 2, 4)

    def test_all_runs(self):
        draw = random.Random(202)
        words = {}
        for at in range(70):
            task, runs = busy_task(draw, people=4, passages=4) if at % 2 else small_task(draw, 800, people=3)
            outs = [out_beats(task, run) for run in runs]
            numbers = most_by_beat(task, outs)
            for beat in range(task[2], task[3] + 1):
                best = [run for run, told in zip(runs, outs) if len(outside(until(told, beat))) == numbers[beat - task[2]]]
                lots = lots_out(outs, len(task[1]), beat)
                for run in draw.sample(best, min(3, len(best))) + [soonest_run(task)]:
                    told = until(out_beats(task, run), beat)
                    for person in range(len(task[1])):
                        word = self.check_why(task, run, told, lots, person, beat)
                        words[word] = words.get(word, 0) + 1
        self.assertTrue(len(words) == 3 and min(words.values()) > 30, words)

    def check_why(self, task, run, told, lots, person, beat):
        """One answer beside all lots, and, on small houses, all answers by all cuts."""
        answer = why(task, run, person, beat)
        self.assertEqual(why(task, run, person, beat), answer)
        self.assertIs(why_holds(task, run, person, beat, answer), True)
        others = outside(told)
        for cut in [answer[-1]] if answer[0] != "out" else [(None,) * len(task[0][0])]:
            if told[person] is not None:
                self.assertEqual(answer, ("out", told[person]))
            elif (person,) not in lots:
                self.assertEqual(answer, ("never", cut))
                self.assertEqual(lets_out(task, beat, cut, (person,)), 0)
            else:
                self.assertEqual(answer, ("instead", others, cut))
                self.assertEqual(lets_out(task, beat, cut), len(others))
                # Whoever has this one out leaves one of the others behind, and somebody has.
                self.assertFalse([lot for lot in lots if set(others + (person,)) <= set(lot)])
        return answer[0]

    def test_all_answers(self):
        draw = random.Random(203)
        for at in range(25):
            task, runs = (busy_task if at % 2 else small_task)(draw, 300, people=3, rooms=3)
            outs = [out_beats(task, run) for run in runs]
            numbers = most_by_beat(task, outs)
            for beat in (task[2], task[3]):
                run, told = [(run, until(told, beat)) for run, told in zip(runs, outs)
                             if len(outside(until(told, beat))) == numbers[beat - task[2]]][-1]
                lots = lots_out(outs, len(task[1]), beat)
                for person in range(len(task[1])):
                    word = "out" if told[person] is not None else "instead" if (person,) in lots else "never"
                    for when in range(task[2], task[3] + 1):
                        self.assertIs(why_holds(task, run, person, beat, ("out", when)), when == told[person])
                    for cut in all_cuts(task, beat):
                        never = word == "never" and lets_out(task, beat, cut, (person,)) == 0
                        self.assertIs(why_holds(task, run, person, beat, ("never", cut)), never)
                        for lot in all_lots(range(len(task[1]))):
                            good = word == "instead" and lot == outside(told) and lets_out(task, beat, cut) == len(lot)
                            self.assertIs(why_holds(task, run, person, beat, ("instead", lot, cut)), good)

    def test_answers_are_any_values(self):
        for person, beat in ((1, 2), (0, 1), (0, 2)):
            answer = why(TWO, BEST, person, beat)
            self.gives(True, why_holds, TWO, BEST, person, beat, answer)
            for value in STRANGE + ((), answer[:1], answer[1:], answer + (0,), answer[::-1], (None,) + answer[1:], ((answer[0],),) + answer[1:],
                                    ("x",) + answer[1:], answer[0], ("out",), ("out", None), ("out", True), ("out", "2"), ("out", (2,)), ("out", 3),
                                    ("out", 0), ("never", (None,) * 2), ("instead", (1,)), ("instead", (), (None,) * 3)):
                self.gives(False, why_holds, TWO, BEST, person, beat, value)
            for value in NO_CUTS:
                self.gives(False, why_holds, TWO, BEST, person, beat, answer[:-1] + (value,))
        for value in STRANGE + ((2,), (1, 0), (True,), (None,), 0, ("1",), (), (0,), (0, 1), deep(40)):
            self.gives(False, why_holds, TWO, BEST, 0, 2, ("instead", value, why(TWO, BEST, 0, 2)[2]))
        one = (HOUSE, ((2, 1, 0),), 0, 5)
        self.gives(True, why_holds, one, ((),), 0, 1, ("out", 1))
        self.gives(False, why_holds, one, ((),), 0, 1, ("out", True))

    def test_told_cut(self):
        self.gives((("enter", 0, 0, 1),), told_cut, TWO, 2, (0, 2, None))
        self.gives((("begin", (0, 1)),), told_cut, TWO, 2, (None, None, None))
        self.gives((("begin", (0, 1)), ("enter", 1, 1, 1), ("enter", 1, 2, 1)), told_cut, TWO, 3, (1, 1, None))
        self.gives((), told_cut, (HOUSE, (), 3, 3), 3, (0, 0, None))
        draw = random.Random(204)
        for _ in range(40):
            task, runs = small_task(draw, 300, people=3, rooms=3)
            outs = [out_beats(task, run) for run in runs]
            numbers = most_by_beat(task, outs)
            for beat in range(task[2], task[3] + 1):
                for cut in all_cuts(task, beat):
                    begin = tuple([at for at, (room, when, _) in enumerate(task[1]) if when <= beat and not smoky(task[0], room, when)
                                   and not holding(cut, room, when)])
                    rows = tuple([("enter",) + row for row in passed_rows(task, beat, cut)])
                    self.gives(((("begin", begin),) if begin else ()) + rows, told_cut, task, beat, cut)
                    self.assertGreaterEqual(len(begin) + sum(row[3] for row in rows), numbers[beat - task[2]])
                    self.assertEqual(len(begin) + sum(row[3] for row in rows), cut_lets(task, beat, cut))


class Yielding(Case):
    """[69], who yields."""

    def test_small(self):
        self.gives((1,), yielding, TWO, 2, (1,), 0)
        self.gives((), yielding, TWO, 2, (), 0)
        # Beside whom there is room; whoever could not be out alone.
        self.gives((1,), yielding, TWO, 3, (1,), 0)
        house = ((0, 0, 1), ((0, 2, 1, 1, ()), (1, 2, 1, 1, ())), (None,) * 3)
        task = (house, ((0, 0, 0), (1, 0, 0), (0, 0, 0), (0, 1, 0)), 0, 1)
        self.gives((0,), yielding, task, 1, (0, 1), 2)
        self.gives((), yielding, task, 1, (0, 1), 3)
        self.gives((0,), yielding, task, 1, (0,), 1)
        self.gives((), yielding, task, 1, (), 1)

    def test_all_lots(self):
        draw = random.Random(205)
        kinds = {}
        for at in range(80):
            task, runs = busy_task(draw, people=4, passages=4) if at % 2 else small_task(draw, people=4)
            outs = [out_beats(task, run) for run in runs]
            for beat in range(task[2], task[3] + 1):
                lots = lots_out(outs, len(task[1]), beat)
                for lot in lots:
                    for person in [one for one in range(len(task[1])) if one not in lot]:
                        told = tuple([other for other in lot if tuple(sorted(set(lot + (person,)) - {other})) in lots])
                        self.gives(told, yielding, task, beat, lot, person)
                        kind = "none" if not told else "all" if told == lot else "some"
                        kinds[kind] = kinds.get(kind, 0) + 1
                        self.assertTrue(not lot or (told == ()) == ((person,) not in lots))
                        self.assertTrue(tuple(sorted(lot + (person,))) not in lots or told == lot)
                        if lot == first_out(task, beat):
                            order = order_of(task[1])
                            self.assertFalse([one for one in told if order.index(one) > order.index(person)])
        self.assertTrue(len(kinds) == 3 and min(kinds.values()) > 20, kinds)


def with_entry(task, passage, beat, width):
    """A task in which a passage has another width at one beat alone: a second passage beside it, or the beat shut and that beside it."""
    house = task[0]
    rows = list(house[1])
    tail, head, length, many, shut = rows[passage]
    rows[passage] = (tail, head, length, many, tuple(sorted(shut + (beat,))))
    others = tuple([when for when in range(60) if when != beat])
    rows.append((tail, head, length, width, others))
    return ((house[0], tuple(rows), house[2]),) + task[1:]


class Widths(Case):
    """[69], which widths tell."""

    def test_small(self):
        self.gives((), wider, TWO, 2)
        self.gives(((0, 0), (1, 1)), narrower, TWO, 2)
        self.gives((), narrower, TWO, 1)
        self.gives((), wider, (HOUSE, (), 3, 3), 3)
        # A passage is entered twice at one beat; either of two alike passages would do for one.
        house = ((0, 1), ((0, 1, 1, 2, ()), (0, 1, 1, 0, ()), (0, 1, 1, 9, (0, 1, 2))), (None, None))
        task = (house, ((0, 0, 0),) * 5, 0, 4)
        self.gives(((0, 0),), wider, task, 1)
        self.gives(((0, 0),), narrower, task, 1)
        self.gives(((0, 0), (0, 1)), wider, task, 2)
        self.gives(((0, 0), (0, 1)), narrower, task, 2)
        self.gives((), wider, task, 3)
        self.gives((), narrower, task, 3)

    def test_one_unlike_at_one_beat_alone(self):
        draw = random.Random(206)
        some = [0, 0]
        for at in range(80):
            task, runs = busy_task(draw, people=4, passages=4) if at % 2 else small_task(draw, 1500, people=4)
            outs = [out_beats(task, run) for run in runs]
            numbers = most_by_beat(task, outs)
            for beat in range(task[2], task[3] + 1):
                most = numbers[beat - task[2]]
                more, less = [], []
                for passage, (tail, head, length, width, shut) in enumerate(task[0][1]):
                    for when in range(task[2], beat - length + 1):
                        if width and when not in shut and not smoky(task[0], tail, when) and not smoky(task[0], head, when + length):
                            up = soonest(with_entry(task, passage, when, width + 1))[beat - task[2]]
                            down = soonest(with_entry(task, passage, when, width - 1))[beat - task[2]]
                            self.assertTrue(most <= up <= most + 1 and most - 1 <= down <= most)
                            more += [(passage, when)] * (up > most)
                            less += [(passage, when)] * (down < most)
                self.gives(tuple(more), wider, task, beat)
                self.gives(tuple(less), narrower, task, beat)
                some[0] += len(more)
                some[1] += len(less)
                self.check_cuts(task, beat, more, less, most)
                self.check_runs(task, beat, less, most, runs, outs)
        self.assertTrue(min(some) > 20, some)

    def check_cuts(self, task, beat, more, less, most):
        """Each cut that lets no more out is passed by all of wider; each of narrower passes some such cut."""
        best = [[row[:2] for row in passed_rows(task, beat, cut)] for cut in all_cuts(task, beat) if lets_out(task, beat, cut) == most]
        for rows in best:
            self.assertTrue(set(more) <= set(rows))
        for entry in less:
            self.assertTrue([rows for rows in best if entry in rows])

    def check_runs(self, task, beat, less, most, runs, outs):
        """Runs that are best by the beat fill all of narrower."""
        for run, told in zip(runs, outs):
            if len(outside(until(told, beat))) == most:
                for passage, when in less:
                    self.assertEqual(len([row for row in run if (passage, when) in row]), task[0][1][passage][3])

    def test_great(self):
        for crowded in (False, True):
            task = great_if(207, crowded)
            began = time.monotonic()
            run = soonest_run(task)
            for beat in (9, 20, 30, 39):
                for person in range(0, 30, 7):
                    answer = why(task, run, person, beat)
                    self.assertTrue(why_holds(task, run, person, beat, answer))
                lot = first_out(task, beat)
                for person in [one for one in range(30) if one not in lot][:4]:
                    told = yielding(task, beat, lot, person)
                    for other in lot[:5]:
                        swapped = tuple(sorted(set(lot + (person,)) - {other}))
                        self.assertEqual(other in told, can_be_out(task, beat, swapped))
                cut = cut_at(task, beat)
                many = [len(row[1]) if row[0] == "begin" else row[3] for row in told_cut(task, beat, cut)]
                self.assertEqual(sum(many), soonest(task)[beat - 9])
                self.assertTrue(set(wider(task, beat)) <= set(row[1:3] for row in told_cut(task, beat, cut)))
                less = narrower(task, beat)
                for passage, when in itertools.islice(less, 4):
                    house = with_entry(task, passage, when, task[0][1][passage][3] - 1)
                    self.assertEqual(soonest(house)[beat - 9], soonest(task)[beat - 9] - 1)
            self.assertLess(time.monotonic() - began, 20)


if __name__ == "__main__":
    unittest.main()
