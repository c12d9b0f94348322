"""What can be, what is told, what is lost: [73] to [75]."""

import itertools
import random
import time
import unittest

from outsoonest.errors import BadHouse, BadRow, NotLet, Refused
from outsoonest.meaning import best_now, falls, lot_now, meaning, steps_now, turned_now
from outsoonest.state import follow, start, state_of
from tests.books import PlainBook, draw_news
from tests.draws import all_runs, draw_house, first_of_all, great_task, lots_out, most_by_beat, out_beats
from tests.helping import STRANGE, Case
from tests.test_crowds import NO_HOUSES
from tests.test_news import NO_STEPS

HOUSE = ((0, 0, 1), ((0, 1, 1, 1, ()), (1, 2, 1, 1, ()), (0, 2, 4, 1, ())), (None, None, None))
FOUR = ((0, 0, 1, 0), ((1, 0, 1, 1, ()), (0, 2, 1, 1, ()), (3, 0, 1, 2, ()), (3, 2, 4, 1, ())), (None,) * 4)
ROWS = (("found", 1, 2), ("found", 1, 0), ("found", 3, 1), ("found", 3, 0))


def by_hand(state):
    """The persons of a state's task, and the task, by the words of the document."""
    now, end, house, people, _ = state
    persons = [at for at, (word, _, beat, _) in enumerate(people) if word == "here" and beat <= end]
    return persons, (house, tuple([people[at][1:] for at in persons]), now, end)


def step_in(row, now):
    return row[0][0] if row and row[0][1] == now else "stand"


class Meant:
    """What a small state means, by all runs of its task; `runs` is None where there are too many."""

    def __init__(self, state, most=1500):
        self.state = state
        self.persons, self.task = by_hand(state)
        self.runs = all_runs(self.task, most)
        if self.runs is not None:
            outs = [out_beats(self.task, run) for run in self.runs]
            already = len([1 for person in state[3] if person[0] == "out"])
            numbers = most_by_beat(self.task, outs)
            self.best = tuple([already + many for many in numbers])
            lot = first_of_all(self.task, lots_out(outs, len(self.persons), state[1]))
            self.lot = tuple([self.persons[at] for at in lot])
            self.plans = [run for run, told in zip(self.runs, outs) if self.is_best(told, lot, numbers)]

    def is_best(self, told, lot, numbers):
        just = tuple([at for at, when in enumerate(told) if when is not None])
        by_beat = tuple([len([when for when in told if when is not None and when <= beat])
                         for beat in range(self.task[2], self.task[3] + 1)])
        return just == lot and by_beat == numbers

    def steps_of(self, run):
        """By person of the book their step by a run."""
        now, end, _, people, _ = self.state
        steps = [None] * len(people)
        for at, person in enumerate(self.persons):
            if people[person][2] == now and now < end:
                steps[person] = step_in(run[at], now)
        return tuple(steps)

    def turned_by(self, steps):
        return len([1 for person in self.lot if self.state[4][person] is not None and self.state[0] < self.state[1]
                    and steps[person] != self.state[4][person]])


def draw_state(draw, rows=14, people=4, end=4):
    """A small state, behind some rows that can be, mostly told and with some found first; with the rows."""
    house = draw_house(draw, rooms=4, passages=7, beats=end + 1)
    book, state, told = PlainBook(house, end), start(house, end), []
    inside = [room for room, kind in enumerate(house[0]) if kind == 0]
    for at in range(rows):
        row = draw_news(draw, book, 0.02)
        if inside and at < people:
            row = ("found", draw.choice(inside), draw.randrange(4))
        if book.why_not(row) is None and not (row[0] == "found" and len(book.words) >= people):
            book.tell(row)
            state = follow(state, row)
            told.append(row)
    return house, state, told


class Refusing(Case):
    def test_meaning(self):
        for value, at in NO_HOUSES:
            self.told(BadHouse, at, meaning, value, None, ())
        self.refuses(Refused, meaning, (HOUSE, 0, ()), 1, STRANGE + (60, -1, (0,)))
        self.told(Refused, 1, meaning, HOUSE, 9, [("found", 0, 0), ("found", 2, 0)])
        self.told(Refused, 0, meaning, HOUSE, 9, [None])

    def test_falls(self):
        state = state_of(HOUSE, 3, (("found", 0, 0), ("found", 1, 0), ("shut", 2, 0, 3)))
        for value in NO_STEPS:
            self.told(BadRow, 1, falls, state, value)
        for value in STRANGE:
            if value not in ((), []):
                self.told(BadRow, 1, falls, state, value)
        for steps, word in (((), "person"), ((0,), "person"), ((None, 1), "step"), ((1, 1), "step"), ((2, 1), "step"), ((0, 59), "passage"),
                            ((0, 0), "step")):
            self.told(NotLet, word, falls, state, steps)
        state = state_of(HOUSE, 3, (("found", 0, 0), ("found", 0, 0)))
        self.told(NotLet, "width", falls, state, [0, 0])
        self.told(NotLet, "beat", falls, state_of(HOUSE, 0, [("found", 0, 0)]), ("stand",))

    def test_names(self):
        state = state_of(FOUR, 6, ROWS)
        self.assertEqual(meaning(rows=list(ROWS), end=6, house=FOUR), (state, best_now(state=state), lot_now(state=state)))
        self.assertEqual(len(steps_now(state=state)), 4)
        self.assertEqual((turned_now(state=state), falls(steps=["stand"] * 4, state=state)), (0, (0, 1, 1, 2, 0, 0)))


class Small(Case):
    def test_nobody(self):
        for end in (0, 4, 59):
            state = start(HOUSE, end)
            self.gives((0,) * (end + 1), best_now, state)
            self.gives((), lot_now, state)
            self.gives(0, turned_now, state)
            self.gives((), steps_now, state)
            self.gives((state, (0,) * (end + 1), ()), meaning, HOUSE, end, ())
            if end:
                self.gives((0,) * end, falls, state, ())

    def test_four(self):
        state = state_of(FOUR, 6, ROWS)
        self.gives((0, 0, 1, 2, 4, 4, 4), best_now, state)
        self.gives((0, 1, 2, 3), lot_now, state)
        self.gives((state, (0, 0, 1, 2, 4, 4, 4), (0, 1, 2, 3)), meaning, FOUR, 6, ROWS)
        self.gives(steps_now(state), steps_now, state)
        self.gives((0, 1, 1, 2, 0, 0), falls, state, ("stand",) * 4)
        self.gives((0,) * 6, falls, state, steps_now(state))

    def test_who_was_out_already(self):
        rows = [("found", 1, 5), ("found", 1, 6), ("found", 0, 7), ("beat", (1, "stand", 0))]
        state = state_of(HOUSE, 4, rows)
        self.gives((1, 2, 3, 3), best_now, state)
        self.gives((1, 2), lot_now, state)
        self.assertEqual((steps_now(state)[0], sorted(map(str, steps_now(state)[1:]))), (None, ["1", "stand"]))
        self.gives((0, 0, 0), falls, state, (None, 1, "stand"))
        self.gives((1, 1, 0), falls, state, (None, "stand", "stand"))
        # Smoke in which all others are lost.
        state = follow(state, ("smoke", 1, 1))
        self.gives((1,) * 4, best_now, state)
        self.gives((), lot_now, state)
        self.gives((None,) * 3, steps_now, state)

    def test_who_is_where(self):
        # Out, lost, within, within to behind the end, in a room.
        house = ((0, 1, 0), ((0, 1, 1, 9, ()), (0, 1, 3, 9, ()), (0, 1, 9, 9, ())), (None,) * 3)
        rows = [("found", 0, 0), ("found", 2, 0), ("found", 0, 0), ("found", 0, 0), ("found", 0, 0), ("smoke", 2, 1),
                ("beat", (0, "stand", 1, 2, "stand"))]
        state = state_of(house, 4, rows)
        self.gives((1, 2, 3, 3), best_now, state)
        self.gives((2, 4), lot_now, state)
        self.gives((None, None, None, None, 0), steps_now, state)
        told = follow(state, ("told", (None, None, None, None, "stand")))
        self.gives(1, turned_now, told)
        self.gives((None, None, None, None, 0), steps_now, told)
        # Of those who are not saved no step is turned.
        shut = follow(follow(told, ("shut", 0, 1, 4)), ("shut", 1, 1, 4))
        self.gives((2,), lot_now, shut)
        self.gives(0, turned_now, shut)

    def test_the_last_beat(self):
        state = state_of(HOUSE, 1, [("found", 0, 0), ("found", 1, 1), ("beat", (0, 1))])
        told = follow(state, ("told", ("stand", None)))
        for one in (state, told):
            self.gives((1,), best_now, one)
            self.gives((), lot_now, one)
            self.gives(0, turned_now, one)
            self.gives((None, None), steps_now, one)
        self.gives((1,), best_now, follow(told, ("told", (1, None))))
        self.gives(0, turned_now, follow(told, ("told", (1, None))))
        self.gives((None,), steps_now, state_of(HOUSE, 0, [("found", 0, 0)]))

    def test_told_steps_that_cannot_be_any_more(self):
        state = state_of(HOUSE, 6, [("found", 0, 0), ("found", 1, 0), ("told", (0, 1))])
        self.gives(0, turned_now, state)
        for row, many in ((("shut", 0, 0, 0), 1), (("width", 0, 0), 1), (("shut", 1, 0, 6), 1), (("smoke", 1, 1), 1), (("smoke", 1, 0), 1),
                          (("smoke", 0, 1), 0), (("shut", 2, 0, 6), 0)):
            later = follow(state, row)
            self.gives(many, turned_now, later)
            meant = Meant(later, 10 ** 6)
            self.assertEqual(min(meant.turned_by(meant.steps_of(run)) for run in meant.plans), many)


class Drawn(Case):
    """Beside all runs of small states."""

    def test_all_runs(self):
        draw = random.Random(221)
        many = turned = out = 0
        while many < 250:
            house, state, rows = draw_state(draw)
            meant = Meant(state)
            if meant.runs is None:
                continue
            many += 1
            self.gives(meant.best, best_now, state)
            self.gives(meant.lot, lot_now, state)
            self.gives((state, meant.best, meant.lot), meaning, house, state[1], tuple(rows))
            fewest = min(meant.turned_by(meant.steps_of(run)) for run in meant.plans)
            self.gives(fewest, turned_now, state)
            steps = steps_now(state)
            self.gives(steps, steps_now, state)
            self.check_steps(meant, steps, fewest)
            turned += fewest
            out += meant.best[0]
        self.assertTrue(turned > 8 and out > 20, (turned, out))

    def check_steps(self, meant, steps, fewest):
        """They are those of a best plan that turns so many; who is not saved may do anything there."""
        saved = [at for at, person in enumerate(meant.persons) if person in meant.lot]
        told = [meant.steps_of(run) for run in meant.plans if not [row for at, row in enumerate(run) if row and at not in saved]]
        self.assertIn(steps, told)
        self.assertEqual(meant.turned_by(steps), fewest)

    def test_falls_of_all_steps(self):
        draw = random.Random(222)
        many = lost = 0
        while many < 60:
            _, state, _ = draw_state(draw, people=3)
            now, end, house, people, _ = state
            meant = Meant(state, 400)
            if meant.runs is None or now == end or not meant.persons:
                continue
            many += 1
            ways = [[None] if person[0] != "here" or person[2] > now else
                    ["stand"] + [at for at, row in enumerate(house[1]) if row[0] == person[1] and now not in row[4]] for person in people]
            for steps in itertools.product(*ways):
                if [at for at, row in enumerate(house[1]) if steps.count(at) > row[3]]:
                    self.told(NotLet, "width", falls, state, steps)
                    continue
                later = Meant(follow(state, ("beat", steps)), 10 ** 6)
                told = tuple([a - b for a, b in zip(meant.best[1:], later.best)])
                self.gives(told, falls, state, steps)
                self.assertGreaterEqual(min(told), 0)
                lost += sum(told)
            steps = steps_now(state)
            self.gives((0,) * (end - now), falls, state, steps)
            later = follow(state, ("beat", steps))
            out = [at for at, person in enumerate(later[3]) if person[0] == "out"]
            self.assertTrue(set(lot_now(state)) - set(out) <= set(lot_now(later)))
        self.assertGreater(lost, 40)

    def test_great(self):
        draw = random.Random(223)
        house = great_task(224)[0]
        rows = [("found", draw.randrange(18), draw.randrange(10)) for _ in range(20)]
        state = state_of(house, 30, rows)
        began = time.monotonic()
        for _ in range(12):
            steps = steps_now(state)
            self.assertEqual(falls(state, steps), (0,) * (30 - state[0]))
            state = follow(follow(state, ("told", steps)), ("beat", steps))
            state = follow(state, ("shut", draw.randrange(60), state[0], 30))
            self.assertLessEqual(turned_now(state), len(lot_now(state)))
        self.assertLess(time.monotonic() - began, 20)


if __name__ == "__main__":
    unittest.main()
