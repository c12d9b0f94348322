"""What if: other houses, tables of falls and gains, and the least end by which all are out: [56] to [59]."""

import random
import time
import unittest

from outsoonest.errors import NoBeat, NoPassage, Refused
from outsoonest.lots import first_out
from outsoonest.soonest import soonest
from outsoonest.whatif import (delay, end_holds, least_end, lost_with, paper_shows, passage_falls, passage_gains, with_later,
                               with_wider, without_passage)
from tests.draws import (all_cuts, all_lots, all_runs, first_of_all, great_task, lots_out, most_by_beat, order_of, out_beats,
                         small_task, smoky)
from tests.helping import STRANGE, Case, deep
from tests.test_cuts import NO_CUTS
from tests.test_lots import NO_LOTS, crowd_is_so
from tests.test_unrolled import NO_TASKS, TASK

HOUSE = ((0, 0, 1), ((0, 2, 1, 1, ()), (0, 1, 1, 1, ()), (1, 2, 1, 2, ())), (None, None, None))
THREE = (HOUSE, ((0, 0, 0), (0, 0, 1), (0, 0, 2)), 0, 2)
NO_PASSAGES = STRANGE + (3, 59, (0,), "1", (None,))
PASSAGES = (without_passage, with_wider, lost_with)
ALONE = (with_later, passage_falls, passage_gains, delay, least_end)


def great_if(seed, crowded, people=30, span=30):
    """A task of 12 rooms, 30 passages, so many people, and beats from now to the end."""
    draw = random.Random(seed)
    rows = []
    for _ in range(28):
        tail = draw.randrange(10)
        head = draw.choice([room for room in range(10) if room != tail]) if crowded else min(11, tail + draw.randint(1, 3))
        rows.append((tail, head, draw.randint(1, 2), draw.randint(1, 2), tuple(sorted(draw.sample(range(60), 6)))))
    rows += [(0, 10, 1, 1, tuple(range(0, 60, 2))), (3, 11, 2, 1, ())]
    who = [(draw.randrange(10), draw.choice((9, 9, 9, 12)), draw.randrange(10)) for _ in range(people)]
    return ((0,) * 10 + (1, 1), tuple(rows), (None,) * 12), tuple(who), 9, 9 + span


def changed(task, passage, width):
    """The task with another width of a passage."""
    rows = list(task[0][1])
    rows[passage] = rows[passage][:3] + (width,) + rows[passage][4:]
    return ((task[0][0], tuple(rows), task[0][2]),) + task[1:]


def begun_later(task):
    """The task in which all in rooms now begin a beat later."""
    house, people, now, end = task
    who = [(room, beat + (beat == now and not house[0][room]), urgency) for room, beat, urgency in people]
    return house, tuple(who), now, end


class Refusing(Case):
    def test_tasks(self):
        for value in NO_TASKS:
            for call in ALONE:
                self.told(Refused, value, call, value)
            for call in PASSAGES + (end_holds,):
                self.told(Refused, value, call, value, None)
            self.told(Refused, value, paper_shows, value, None, None)

    def test_passages_and_beats(self):
        for call in PASSAGES:
            self.refuses(NoPassage, call, (THREE, 0), 1, NO_PASSAGES)
            self.told(NoPassage, 0, call, ((HOUSE[0], (), HOUSE[2]), (), 0, 0), 0)
        self.refuses(NoBeat, paper_shows, (THREE, 0, None), 1, STRANGE + (60, -1, (0,), "1"))
        self.refuses(NoBeat, paper_shows, ((HOUSE, (), 3, 5), 0, None), 1, (0, 2, 60))
        for end in (3, 5, 6, 59):
            self.gives(False, paper_shows, (HOUSE, (), 3, 5), end, None)

    def test_now_is_the_end(self):
        for task in ((HOUSE, (), 0, 0), (HOUSE, ((0, 59, 0),), 59, 59)):
            self.refuses(Refused, with_later, (task,), 0, (task,))
            self.refuses(Refused, delay, (task,), 0, (task,))

    def test_names(self):
        self.assertEqual(without_passage(passage=0, task=THREE), changed(THREE, 0, 0))
        self.assertEqual(with_wider(passage=0, task=THREE), changed(THREE, 0, 2))
        self.assertEqual(lost_with(passage=0, task=THREE), ((1, 2), ()))
        self.assertIs(end_holds(value=2, task=THREE), True)
        self.assertIs(paper_shows(value=(0, ("nowhere",)), end=2, task=THREE), False)


class Edits(Case):
    """[56]."""

    def test_widths(self):
        for width, more in ((0, 1), (1, 2), (8, 9), (9, 9)):
            task = changed(THREE, 2, width)
            self.gives(changed(THREE, 2, 0), without_passage, task, 2)
            self.gives(changed(THREE, 2, more), with_wider, task, 2)
        task = (((0, 1), ((0, 1, 9, 3, (0, 5, 59)),) * 60, (4, None)), (), 0, 59)
        for passage in (0, 30, 59):
            self.gives(changed(task, passage, 0), without_passage, task, passage)
            self.gives(changed(task, passage, 4), with_wider, task, passage)

    def test_later(self):
        # In a room now, to come, in a way out, in smoke.
        house = ((0, 1, 0), ((0, 1, 1, 1, ()),), (None, None, 1))
        people = ((0, 3, 0), (0, 4, 1), (1, 3, 2), (2, 3, 3), (0, 9, 4), (2, 4, 5))
        later = ((0, 4, 0), (0, 4, 1), (1, 3, 2), (2, 4, 3), (0, 9, 4), (2, 4, 5))
        self.gives((house, later, 3, 5), with_later, (house, people, 3, 5))
        self.gives((house, ((0, 59, 0),), 58, 59), with_later, (house, ((0, 58, 0),), 58, 59))
        self.gives((house, (), 0, 1), with_later, (house, (), 0, 1))


class Tables(Case):
    """[57]."""

    def test_small(self):
        self.gives(((0, 1, 2), (0, 0, 1), (0, 0, 1)), passage_falls, THREE)
        self.gives(((0, 1, 0), (0, 0, 0), (0, 0, 0)), passage_gains, THREE)
        self.gives((0, 1, 2), delay, THREE)
        self.gives(((1, 2), ()), lost_with, THREE, 0)
        nobody = (HOUSE, (), 4, 5)
        for call in (passage_falls, passage_gains):
            self.gives(((0, 0),) * 3, call, nobody)
            self.gives((), call, (((1,), (), (None,)), ((0, 4, 0),), 4, 5))
            self.gives(((0,),) * 3, call, (HOUSE, ((0, 59, 0),), 59, 59))
        self.gives((0, 0), delay, nobody)
        self.gives(((), ()), lost_with, nobody, 2)

    def test_widths_of_nine_and_none(self):
        house = ((0, 1), ((0, 1, 1, 9, ()), (0, 1, 1, 0, ())), (None, None))
        task = (house, ((0, 0, 0),) * 12, 0, 2)
        self.gives(((0, 9, 12), (0, 0, 0)), passage_falls, task)
        # No wider than nine; one that nobody could enter.
        self.gives(((0, 0, 0), (0, 1, 0)), passage_gains, task)
        self.gives((tuple(range(12)), ()), lost_with, task, 0)
        self.gives(((), ()), lost_with, task, 1)

    def test_one_in_the_place_of_another(self):
        # Without its passage the more urgent one cannot be out, and the other one has the way alone.
        house = ((0, 0, 0, 1), ((0, 2, 1, 1, ()), (1, 2, 1, 1, ()), (2, 3, 1, 1, ())), (None,) * 4)
        task = (house, ((0, 0, 0), (1, 0, 5)), 0, 2)
        self.gives(((0,), (1,)), lost_with, task, 0)
        self.gives(((), ()), lost_with, task, 1)
        self.gives(((0, 0, 0), (0, 0, 0), (0, 0, 1)), passage_falls, task)

    def test_all_runs(self):
        draw = random.Random(161)
        falls = gains = late = many = 0
        while many < 150:
            task, runs = small_task(draw, 1500, people=4, passages=4)
            # Of those of whom nobody can be out a few will do.
            if soonest(task)[-1] - soonest(task)[0] < draw.choice((0, 1, 1, 1)):
                continue
            many += 1
            outs = [out_beats(task, run) for run in runs]
            numbers = most_by_beat(task, outs)
            lot = first_of_all(task, lots_out(outs, len(task[1]), task[3]))
            rows_of_falls, rows_of_gains = [], []
            for passage, row in enumerate(task[0][1]):
                less = changed(task, passage, 0)
                less_outs = [out_beats(less, run) for run in all_runs(less, 10 ** 9)]
                more = changed(task, passage, min(9, row[3] + 1))
                more_outs = [out_beats(more, run) for run in all_runs(more, 10 ** 9)]
                rows_of_falls.append(tuple([a - b for a, b in zip(numbers, most_by_beat(less, less_outs))]))
                rows_of_gains.append(tuple([b - a for a, b in zip(numbers, most_by_beat(more, more_outs))]))
                other = first_of_all(less, lots_out(less_outs, len(task[1]), task[3]))
                gone = (tuple([at for at in lot if at not in other]), tuple([at for at in other if at not in lot]))
                self.gives(gone, lost_with, task, passage)
                self.check_row(task, passage, runs, outs, numbers, rows_of_falls[-1], rows_of_gains[-1])
                falls += sum(rows_of_falls[-1])
                gains += sum(rows_of_gains[-1])
            self.gives(tuple(rows_of_falls), passage_falls, task)
            self.gives(tuple(rows_of_gains), passage_gains, task)
            if task[2] < task[3]:
                later = begun_later(task)
                told = most_by_beat(later, [out_beats(later, run) for run in all_runs(later, 10 ** 9)])
                self.gives(tuple([a - b for a, b in zip(numbers, told)]), delay, task)
                late += sum(numbers) - sum(told)
        self.assertTrue(falls > 50 and gains > 8 and late > 40, (falls, gains, late))

    def check_row(self, task, passage, runs, outs, numbers, falls, gains):
        """No number is below 0, and what bounds it from above."""
        house, _, now, end = task
        tail, head, length, _, shut = house[1][passage]
        for beat in range(now, end + 1):
            best = [(run, told) for run, told in zip(runs, outs)
                    if len([when for when in told if when is not None and when <= beat]) == numbers[beat - now]]
            sent = [sum(1 for row, when in zip(run, told) if when is not None and when <= beat
                        for entry in row if entry[0] == passage) for run, told in best]
            fall, gain = falls[beat - now], gains[beat - now]
            self.assertTrue(0 <= fall <= min(sent))
            self.assertEqual(fall == 0, min(sent) == 0)
            can = [when for when in range(now, beat - length + 1) if when not in shut and not smoky(house, tail, when)
                   and not smoky(house, head, when + length)]
            self.assertTrue(0 <= gain <= len(can))

    def test_great(self):
        for crowded in (False, True):
            task = great_if(162, crowded)
            began = time.monotonic()
            falls, gains, late = passage_falls(task), passage_gains(task), delay(task)
            lost = [lost_with(task, passage) for passage in range(30)]
            self.assertLess(time.monotonic() - began, 20)
            self.assertEqual((len(falls), len(gains), len(late), len(lost)), (30, 30, 31, 30))
            self.assertGreater(sum(map(sum, falls)) + sum(map(sum, gains)) + sum(late), 10)


class Ends(Case):
    """[58], [59]."""

    def test_small(self):
        self.gives(True, end_holds, THREE, 2)
        end, paper = least_end((HOUSE, THREE[1], 0, 0))
        self.assertEqual((end, paper[0], paper_shows(THREE, 1, paper), paper_shows(THREE, 2, paper)), (2, 1, True, False))
        # The end of the task aside, also one that is less, or now.
        for last in (0, 1, 5, 59):
            self.gives((end, paper), least_end, THREE[:3] + (last,))
        for value in STRANGE[1:] + (0, 1, 3, 59, 60, (2,), (2, paper), "2"):
            self.gives(False, end_holds, THREE, value)
        self.gives(False, end_holds, THREE, None)

    def test_now(self):
        for now in (0, 5, 59):
            for people in ((), ((2, now, 0),) * 3):
                self.gives((now, None), least_end, (HOUSE, people, now, 59))
                self.gives(True, end_holds, (HOUSE, people, now, 59), now)
                self.gives(False, end_holds, (HOUSE, people, now, 59), None)
        # Who comes to a way out later; behind beat 58.
        self.gives((9, (1, ("nowhere",))), least_end, (HOUSE, ((2, 3, 0), (2, 9, 0)), 3, 4))
        self.gives((59, (1, ("nowhere",))), least_end, (HOUSE, ((2, 3, 0), (2, 59, 0)), 3, 4))

    def test_never(self):
        # In smoke, behind what is left of the beats, with no way out, too many for the beats.
        house = ((0, 0, 1), ((0, 2, 2, 1, ()),), (3, None, None))
        for who, paper in ((((0, 3, 0),), (0, ("nowhere",))), (((0, 0, 0), (0, 3, 5)), (1, ("nowhere",)))):
            self.gives((None, paper), least_end, (house, who, 0, 4))
        self.gives((5, (2, ("nowhere",))), least_end, (house, ((0, 0, 0), (0, 1, 1), (2, 5, 3)), 0, 59))
        end, paper = least_end((house, ((1, 0, 0),), 0, 0))
        self.assertEqual((end, paper[0]), (None, 0))
        self.gives(True, paper_shows, (house, ((1, 0, 0),), 0, 0), 59, paper)
        bare = (HOUSE[0], ((0, 2, 9, 1, ()),), HOUSE[2])
        for many, told in ((8, 59), (9, 59), (10, None)):
            task = (bare, ((0, 50 - many + 1 if many < 10 else 42, 0),) * many, 42 if many > 8 else 43, 59)
            self.assertEqual(least_end(task)[0], told)
            self.gives(True, end_holds, task, told)
            self.gives(False, end_holds, task, 58 if told == 59 else 59)
            self.check_end(task)

    def check_end(self, task):
        """The end and the paper, beside the program's own numbers of later ends."""
        house, people, now, _ = task
        end, paper = least_end(task)
        numbers = soonest(task[:3] + (59,))
        whole = [beat for beat in range(now, 60) if numbers[beat - now] == len(people)]
        self.assertEqual(end, whole[0] if whole else None)
        self.gives(True, end_holds, task, end)
        self.gives((end, paper), least_end, task)
        if end == now:
            self.assertIsNone(paper)
            return
        last = 59 if end is None else end - 1
        person, shown = paper
        lot = first_out(task[:3] + (last,), last)
        self.assertEqual(person, [at for at in order_of(people) if at not in lot][0])
        self.gives(True, paper_shows, task, last, paper)
        if end is not None:
            self.gives(False, paper_shows, task, end, paper)
        # What bars an end bars all ahead of it; there all are held still, or still to come.
        for earlier in range(now, last):
            if shown[0] == "crowd" or smoky(house, people[person][0], people[person][1]) or people[person][1] > earlier:
                self.assertTrue(numbers[earlier - now] < len(people))
                self.assertIs(paper_shows(task, earlier, paper), True)

    def test_all_runs(self):
        draw = random.Random(163)
        ends, nones, papers = 0, 0, set()
        for _ in range(120):
            task, runs = small_task(draw, people=3)
            outs = [out_beats(task, run) for run in runs]
            numbers = most_by_beat(task, outs)
            end, paper = least_end(task)
            whole = [beat for beat in range(task[2], task[3] + 1) if numbers[beat - task[2]] == len(task[1])]
            if whole:
                self.assertEqual(end, whole[0])
                ends += 1
            else:
                self.assertTrue(end is None or end > task[3])
                nones += 1
            if end is not None and task[2] < end <= task[3] + 1:
                lots = lots_out(outs, len(task[1]), end - 1)
                first = first_of_all(task, lots)
                self.assertEqual(paper[0], [at for at in order_of(task[1]) if at not in first][0])
            for value in set((task[2], task[3], 59)) | set((end - 1, end, min(59, end + 1)) if end else ()):
                self.assertIs(end_holds(task, value), value == end)
            papers.add(None if paper is None else paper[1][0])
            self.check_end(task)
        self.assertTrue(ends > 20 and nones > 20 and papers == {None, "nowhere", "crowd"})

    def test_all_papers(self):
        draw = random.Random(164)
        for _ in range(25):
            task, _ = small_task(draw, people=3, rooms=3)
            for end in range(task[2], task[3] + 3):
                for person, (room, beat, _) in enumerate(task[1]):
                    told = smoky(task[0], room, beat) or beat > end
                    self.gives(told, paper_shows, task, end, (person, ("nowhere",)))
                    for persons in all_lots(range(len(task[1]))):
                        for cut in all_cuts(task, end):
                            paper = (person, ("crowd", persons, cut))
                            self.assertIs(paper_shows(task, end, paper), crowd_is_so(task, end, persons, cut))

    def test_papers_are_any_values(self):
        end, paper = least_end(THREE)
        person, (word, persons, cut) = paper
        self.gives(True, paper_shows, THREE, 1, paper)
        for value in STRANGE + ((), (person,), paper + (0,), paper[1], (paper[1], person), (person, (word, persons)), (person, ("nowhere",)),
                                (person, ("nowhere", ())), (person, ("crowds", persons, cut)), (person, (True, persons, cut))):
            self.gives(False, paper_shows, THREE, 1, value)
        for value in STRANGE + (3, 59, (0,), "1"):
            self.gives(False, paper_shows, THREE, 1, (value, paper[1]))
            self.gives(False, paper_shows, THREE, 1, (person, value))
            self.gives(False, paper_shows, THREE, 1, (person, (value,)))
        for value in NO_LOTS[-8:] + ((3,), (1, 0), (True,), deep(40)):
            self.gives(False, paper_shows, THREE, 1, (person, (word, value, cut)))
        for value in NO_CUTS:
            self.gives(False, paper_shows, THREE, 1, (person, (word, persons, value)))
        # Whoever is no person begins nowhere.
        task = (TASK[0], ((0, 3, 0),), 0, 4)
        for value in STRANGE + (1, 59, (0,), "0"):
            self.gives(False, paper_shows, task, 4, (value, ("nowhere",)))
        self.gives(True, paper_shows, task, 4, (0, ("nowhere",)))
        for value in STRANGE + ("crowd", "Nowhere", ("nowhere",)):
            self.gives(False, paper_shows, task, 4, (0, (value,)))

    def test_great(self):
        for crowded in (False, True):
            for span in (0, 30):
                task = great_if(165, crowded, span=span)
                began = time.monotonic()
                self.check_end(task)
                self.assertLess(time.monotonic() - began, 20)
        began = time.monotonic()
        end, paper = least_end(great_task(166, crowded=True))
        self.assertTrue(paper_shows(great_task(166, crowded=True), 59 if end is None else end - 1, paper))
        self.assertLess(time.monotonic() - began, 20)


if __name__ == "__main__":
    unittest.main()
