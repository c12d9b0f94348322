"""Floors: parts of a house that are left by one stair each: [60] to [62]."""

import itertools
import random
import time
import unittest

from outsoonest.errors import Refused
from outsoonest.floors import by_floors, came_to, check_floor, rest_task
from outsoonest.soonest import soonest
from outsoonest.unrolled import check_task
from tests.draws import draw_house, draw_task, followed, small_task
from tests.helping import STRANGE, Case, deep
from tests.test_unrolled import NO_TASKS

TOWER = ((0, 0, 0, 1), ((0, 1, 2, 2, ()), (1, 2, 1, 1, ()), (2, 3, 1, 1, ())), (None,) * 4)
TASK = (TOWER, ((0, 0, 0), (0, 0, 0), (1, 0, 0)), 0, 6)
LOW = ((0, 1), 1)
HIGH = ((0, 1, 2), 2)
NO_FLOORS = STRANGE + (
    (), ((0, 1),), ((0, 1), 1, 0), ((0, 1), 0), ((1,), 1), ((1, 2), 2), ((0, 2), 2), ((1, 0), 1), ((0, 0, 1), 1), ((0, 1, 3), 1),
    ((3,), 3), ((), 0), ((0, 1), 2), ((0, 1), 4), ((0, 1), -1), ((0, 1), True), ((0, True), 1), ((False, 1), 1), ((0, 1), None),
    ((0, 1), "1"), ("01", 1), (0, 0), (None, 1), ((0, 1), (1,)), ((0, 4), 0), ((0, 1, 2), 1), (deep(40), 0), ((0,), deep(40)))


def is_floor(house, rooms, stair):
    """Whether rooms and one of them are a floor, by the words of the document."""
    if stair not in rooms or any(house[0][room] for room in rooms):
        return False
    outwards = [row for row in house[1] if row[0] in rooms and row[1] not in rooms]
    inwards = [row for row in house[1] if row[0] not in rooms and row[1] in rooms]
    return all(row[0] == stair for row in outwards) and not inwards


def all_floors(house):
    """All floors of a house."""
    rooms = range(len(house[0]))
    lots = [lot for many in rooms for lot in itertools.combinations(rooms, many + 1)]
    return [(lot, stair) for lot in lots for stair in lot if is_floor(house, lot, stair)]


def came_by_runs(task, runs, floor):
    """By beat how many of a floor have been at its stair, without smoke there, by it, at most, by all runs."""
    rooms, stair = floor
    house, people, now, end = task
    best = [0] * (end - now + 1)
    for run in runs:
        first = []
        for person, (room, _, _) in enumerate(people):
            if room in rooms:
                there = followed(task, run[person], person)
                first.append(next((beat for beat in range(now, end + 1) if there[beat] == ("room", stair)), None))
        for at in range(len(best)):
            best[at] = max(best[at], len([beat for beat in first if beat is not None and beat <= now + at]))
    return tuple(best)


def rest_by_hand(task, floor, came):
    house, people, now, end = task
    rest = [person for person in people if person[0] not in floor[0]]
    for at, many in enumerate(came):
        rest += [(floor[1], now + at, 0)] * (many - (came[at - 1] if at else 0))
    return house, tuple(rest), now, end


def draw_tower(draw, floors, wide=3, people=8, end=14):
    """A task in a tower whose floors lead, each by its stair, to the next one; and the floors, from the top down."""
    kinds, rows, told = [], [], []
    for at in range(floors):
        first, many = len(kinds), draw.randint(1, wide)
        kinds += [0] * many
        for _ in range(draw.randint(many - 1, 2 * many) if many > 1 else 0):
            rows.append(tuple(draw.sample(range(first, first + many), 2)) + (draw.randint(1, 2), draw.randint(1, 2), ()))
        for _ in range(draw.choice((1, 1, 2)) if at else 0):
            rows.append((told[-1][1], draw.randrange(first, first + many), draw.randint(1, 3), draw.randint(1, 2),
                         tuple(sorted(draw.sample(range(end), 2)))))
        told.append((tuple(range(len(kinds))), draw.randrange(first, first + many)))
    rows += [(told[-1][1], len(kinds), 1, draw.randint(1, 2), ()), (told[-1][1], len(kinds), 3, 1, ())]
    smoke = [draw.choice((None, None, None, draw.randint(2, end))) for _ in kinds] + [None]
    who = [(draw.randrange(len(kinds)), draw.choice((0, 0, 0, 1, 4)), draw.randrange(10)) for _ in range(people)]
    return ((tuple(kinds) + (1,), tuple(rows), tuple(smoke)), tuple(who), 0, end), told


class Refusing(Case):
    def test_tasks(self):
        for value in NO_TASKS:
            for call in (check_floor, came_to, rest_task, by_floors):
                self.told(Refused, value, call, value, None)

    def test_floors(self):
        for call in (check_floor, came_to, rest_task):
            self.refuses(Refused, call, (TASK, LOW), 1, NO_FLOORS)
        self.refuses(Refused, by_floors, (TASK, ()), 1, [value for value in STRANGE if value not in ((), [])] + [LOW, (LOW, HIGH, 0)])
        for value in NO_FLOORS:
            self.refuses(Refused, by_floors, (TASK, ()), 1, ((value,), (LOW, value), (value, LOW), (LOW, HIGH, value)))
        for floor in (LOW, HIGH, ((0,), 0)):
            self.gives(floor, check_floor, TASK, floor)

    def test_passages_in_and_out(self):
        # A way into the stair's own floor from it; into it from others, out of it from another room; none at all.
        for more, told in (((1, 0, 1, 1, ()), True), ((2, 0, 1, 1, ()), False), ((2, 1, 9, 0, ()), False), ((0, 2, 9, 0, ()), False),
                           ((0, 3, 1, 1, tuple(range(60))), False), ((1, 3, 1, 1, ()), True)):
            task = ((TOWER[0], TOWER[1] + (more,), TOWER[2]),) + TASK[1:]
            if told:
                self.gives(LOW, check_floor, task, LOW)
            else:
                self.refuses(Refused, check_floor, (task, None), 1, (LOW,))
        bare = (TOWER[0], (), TOWER[2])
        for rooms in ((0,), (1,), (0, 2), (0, 1, 2)):
            for stair in rooms:
                self.gives((rooms, stair), check_floor, (bare,) + TASK[1:], (rooms, stair))

    def test_all_floors(self):
        draw = random.Random(171)
        many = 0
        for _ in range(60):
            task = draw_task(draw)
            rooms = range(len(task[0][0]))
            lots = [lot for much in range(len(rooms) + 1) for lot in itertools.combinations(rooms, much)]
            for value in itertools.product(lots, rooms):
                if is_floor(task[0], *value):
                    self.gives(value, check_floor, task, value)
                    many += 1
                else:
                    self.refuses(Refused, check_floor, (task, None), 1, (value,))
        self.assertGreater(many, 150)

    def test_names(self):
        self.assertEqual(check_floor(value=[[0, 1], 1], task=TASK), LOW)
        self.assertEqual(came_to(floor=LOW, task=TASK), (1, 1, 3, 3, 3, 3, 3))
        self.assertEqual(rest_task(floor=LOW, task=TASK)[1], ((1, 0, 0), (1, 2, 0), (1, 2, 0)))
        self.assertEqual(by_floors(floors=[LOW], task=TASK), soonest(TASK))


class Came(Case):
    """[60], [61]."""

    def test_small(self):
        self.gives((1, 1, 3, 3, 3, 3, 3), came_to, TASK, LOW)
        self.gives((TOWER, ((1, 0, 0), (1, 2, 0), (1, 2, 0)), 0, 6), rest_task, TASK, LOW)
        self.gives((2,) * 7, came_to, TASK, ((0,), 0))
        self.gives((0, 1, 1, 2, 3, 3, 3), came_to, TASK, HIGH)
        # Others ahead, in their order, whatever their urgency; also those who come later, and in a way out.
        people = ((2, 0, 9), (0, 1, 3), (3, 2, 4), (1, 5, 5), (2, 9, 6))
        self.gives((TOWER, ((2, 0, 9), (3, 2, 4), (2, 9, 6), (1, 3, 0), (1, 5, 0)), 0, 6), rest_task, (TOWER, people, 0, 6), LOW)
        self.gives((0, 0, 0, 1, 1, 2, 2), came_to, (TOWER, people, 0, 6), LOW)

    def test_edges(self):
        for now in (0, 5, 59):
            self.gives((0,), came_to, (TOWER, (), now, now), LOW)
            self.gives((TOWER, (), now, now), rest_task, (TOWER, (), now, now), LOW)
            task = (TOWER, ((1, now, 7), (0, now, 0), (1, 59, 0)), now, now)
            self.gives((2 if now == 59 else 1,), came_to, task, LOW)
            self.gives((TOWER, ((1, now, 0),) * (2 if now == 59 else 1), now, now), rest_task, task, LOW)

    def test_smoke_at_the_stair(self):
        for smoke, told in ((0, (0,) * 7), (1, (1,) * 7), (2, (1,) * 7), (3, (1, 1, 3, 3, 3, 3, 3)), (7, (1, 1, 3, 3, 3, 3, 3)),
                            (59, (1, 1, 3, 3, 3, 3, 3))):
            task = ((TOWER[0], TOWER[1], (None, smoke, None, None)),) + TASK[1:]
            self.gives(told, came_to, task, LOW)
            self.assertEqual(by_floors(task, [LOW]), soonest(task))
        task = ((TOWER[0], TOWER[1], (1, 3, None, None)), ((0, 0, 0), (0, 1, 0), (1, 3, 0), (1, 2, 0)), 0, 6)
        self.gives((0, 0, 2, 2, 2, 2, 2), came_to, task, LOW)
        task = ((TOWER[0], TOWER[1], (None, 3, None, None)), ((1, 4, 0), (0, 4, 0)), 4, 6)
        self.gives((0, 0, 0), came_to, task, LOW)
        self.gives((task[0], (), 4, 6), rest_task, task, LOW)

    def test_all_runs(self):
        draw = random.Random(172)
        many = 0
        for _ in range(120):
            task, runs = small_task(draw, people=3)
            for floor in all_floors(task[0]):
                came = came_by_runs(task, runs, floor)
                self.gives(came, came_to, task, floor)
                self.gives(rest_by_hand(task, floor, came), rest_task, task, floor)
                many += len(floor[0]) > 1 and came[-1] > came[0]
        self.assertGreater(many, 15)

    def test_the_rest_is_a_task(self):
        draw = random.Random(173)
        for _ in range(40):
            task, floors = draw_tower(draw, 3)
            for floor in floors:
                rest = rest_task(task, floor)
                self.assertEqual(check_task(rest), rest)
                self.assertEqual(rest, rest_by_hand(task, floor, came_to(task, floor)))
                self.assertEqual(soonest(rest), soonest(task))


class Floors(Case):
    """[61], [62]."""

    def test_small(self):
        for floors in ((), (LOW,), (LOW, HIGH), (HIGH, LOW), (LOW, LOW), (((0,), 0), LOW, HIGH)):
            self.gives((0, 0, 1, 1, 2, 3, 3), by_floors, TASK, floors)
        self.gives((0,), by_floors, (TOWER, (), 3, 3), (LOW,))
        self.gives((1,), by_floors, (TOWER, ((3, 3, 0), (0, 3, 0)), 3, 3), (LOW, HIGH))

    def test_any_floors_in_any_order(self):
        draw = random.Random(174)
        many = 0
        for _ in range(300):
            house = draw_house(draw, rooms=6, passages=7, beats=8)
            who = tuple([(draw.randrange(len(house[0])), draw.choice((0, 0, 0, 1, 3)), 0) for _ in range(draw.randint(0, 9))])
            task, floors = (house, who, 0, draw.randint(0, 9)), all_floors(house)
            if floors:
                told = tuple([draw.choice(floors) for _ in range(draw.randint(1, 4))])
                self.gives(soonest(task), by_floors, task, told)
                many += soonest(task)[-1] > soonest(task)[0]
        self.assertGreater(many, 60)

    def test_towers(self):
        draw = random.Random(175)
        many = 0
        for _ in range(80):
            task, floors = draw_tower(draw, draw.randint(1, 4))
            self.gives(soonest(task), by_floors, task, tuple(floors))
            many += soonest(task)[-1]
        self.assertGreater(many, 120)

    def test_great(self):
        draw = random.Random(176)
        for wide, floors in ((1, 19), (2, 9), (9, 2)):
            task, told = draw_tower(draw, floors, wide=wide, people=60, end=59)
            told = (told * 10)[:20]
            began = time.monotonic()
            self.assertEqual(by_floors(task, told), soonest(task))
            self.assertLess(time.monotonic() - began, 10)


if __name__ == "__main__":
    unittest.main()
