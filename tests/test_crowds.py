"""Crowds: [37]."""

import itertools
import random
import time
import unittest

from outsoonest.crowds import crowd_bars, crowd_can, crowd_paper, fullest, most_from
from outsoonest.errors import BadHouse, NoBeat, Refused
from outsoonest.lots import most_out
from tests.draws import all_cuts, all_lots, all_runs, draw_house, great_task, out_numbers, passed_rows, smoky
from tests.helping import STRANGE, Case, deep
from tests.test_lots import HOUSE

# HOUSE: rooms 0, 1 and 3 inside; 1 to 0, 0 to 2 (out), 3 to 0 for two, 3 to 2 in four beats.
NO_HOUSES = ((None, -1), ((), -1), (((0, 2), (), (None, None)), 0), (((0, 1), ((1, 0, 1, 1, ()),), (None, None)), 1),
             (((0, 1), (), (None, 0)), 2), (deep(50), -1), (True, -1), ("house", -1))
NO_BEATS = STRANGE + (60, -1, (0,), "3")
NO_ROOMS = STRANGE + ((2,), (0, 2), (1, 0), (0, 0), (4,), (-1,), (True,), (0, None), ("0",), 0, ((0,),), (0, 1, 2, 3))
NO_ORDERS = STRANGE + ((2,), (0, 2), (0, 0), (3, 1, 3), (4,), (-1,), (False,), (0, None), ("0",), 0, ((0,),), ([],))
NO_CROWDS = STRANGE + ((), (0, 0, 0), (0,) * 5, (0, 0, 1, 0), (1000, 0, 0, 0), (0, 0, 0, -1), (True, 0, 0, 0), (0, None, 0, 0),
                       (0, 0, 0, "1"), (0, 0, None, 0), ((0,), 0, 0, 0), 0)
CALLS = ((most_from, (None,)), (crowd_can, (None,)), (crowd_paper, (None,)), (crowd_bars, (None, None)), (fullest, (None,)))
NO_ONE = (0, 0, 0, 0)


class Refusing(Case):
    def test_houses_and_beats(self):
        for call, more in CALLS:
            for value, at in NO_HOUSES:
                self.told(BadHouse, at, call, value, None, None, *more)
            self.refuses(NoBeat, call, (HOUSE, 0, None) + more, 1, NO_BEATS)
            self.refuses(NoBeat, call, (HOUSE, 5, 5) + more, 2, NO_BEATS + (0, 4))

    def test_rooms(self):
        self.refuses(Refused, most_from, (HOUSE, 0, 5, ()), 3, NO_ROOMS)
        self.refuses(Refused, fullest, (HOUSE, 0, 5, ()), 3, NO_ORDERS)
        for value in NO_ROOMS + ((), (1,), (0, 3)):
            self.gives(False, crowd_bars, HOUSE, 0, 5, NO_ONE, value)
        for value in NO_ROOMS:
            self.gives(False, crowd_bars, HOUSE, 0, 5, (99, 99, 0, 99), value)

    def test_crowds(self):
        for call, more in ((crowd_can, ()), (crowd_paper, ()), (crowd_bars, (None,))):
            self.refuses(Refused, call, (HOUSE, 0, 5, NO_ONE) + more, 3, NO_CROWDS)


def most_by_cuts(house, now, beat, rooms):
    """How many can be out of rooms, however many are there: the least that a cut lets out which holds them now."""
    task = (house, (), now, beat)
    inside = [room for room in rooms if not smoky(house, room, now)]
    return min([sum([width for _, _, width in passed_rows(task, beat, cut)]) for cut in all_cuts(task, beat)
                if all(cut[room] == now for room in inside)])


def can_by_cuts(house, now, beat, crowd, mosts):
    """Whether no rooms hold more of a crowd than can be out of them."""
    return all(sum(crowd[room] for room in rooms) <= most for rooms, most in mosts.items())


class Small(Case):
    def test_most_from(self):
        for rooms, beat, many in (((1, 3), 4, 4), ((), 4, 0), ((0,), 4, 4), ((1,), 4, 3), ((3,), 4, 4), ((0, 1, 3), 4, 5), ((3,), 3, 2),
                                  ((1, 3), 1, 0), ((0,), 1, 1), ((0,), 0, 0), ((0, 1, 3), 59, 59 + 56)):
            self.gives(many, most_from, HOUSE, 0, beat, rooms)
        self.gives(3, most_from, HOUSE, 56, 59, (0,))
        self.gives(0, most_from, HOUSE, 59, 59, (0, 1, 3))

    def test_crowds(self):
        for crowd, beat, told in (((0, 2, 0, 2), 4, True), ((0, 3, 0, 1), 4, True), ((0, 3, 0, 2), 4, False), ((0, 5, 0, 0), 4, False),
                                  (NO_ONE, 0, True), ((1, 0, 0, 0), 0, False), ((999, 0, 0, 0), 59, False), ((1, 2, 0, 1), 4, True),
                                  ((1, 2, 0, 2), 4, True), ((1, 2, 0, 3), 4, False), ((2, 2, 0, 1), 4, True), ((1, 3, 0, 1), 4, True),
                                  ((2, 3, 0, 1), 4, False)):
            self.gives(told, crowd_can, HOUSE, 0, beat, crowd)
            if told:
                self.gives(None, crowd_paper, HOUSE, 0, beat, crowd)
            else:
                self.gives(True, crowd_bars, HOUSE, 0, beat, crowd, crowd_paper(HOUSE, 0, beat, crowd))
        self.gives((1,), crowd_paper, HOUSE, 0, 4, (0, 5, 0, 0))
        for rooms, told in (((1,), True), ((0, 1), True), ((0,), False), ((), False), ((1, 3), True), ((0, 1, 3), False), ((1, 2), False)):
            self.gives(told, crowd_bars, HOUSE, 0, 4, (0, 5, 0, 0), rooms)

    def test_fullest(self):
        for order, beat, many in (((3, 1), 4, (0, 0, 0, 4)), ((1, 3), 4, (0, 3, 0, 1)), ((), 4, NO_ONE), ((0, 1, 3), 4, (4, 0, 0, 1)),
                                  ((3, 0, 1), 4, (1, 0, 0, 4)), ((1, 0, 3), 4, (1, 3, 0, 1)), ((1,), 0, NO_ONE), ((1,), 1, NO_ONE)):
            self.gives(many, fullest, HOUSE, 0, beat, order)

    def test_great_numbers(self):
        # More than a crowd can tell: twenty doors of nine, for 59 beats.
        house = ((0, 0, 1), tuple([(0, 2, 1, 9, ())] * 20 + [(1, 0, 1, 9, ())]), (None,) * 3)
        self.gives(59 * 180, most_from, house, 0, 59, (0,))
        self.gives((59 * 180, 0, 0), fullest, house, 0, 59, (0, 1))
        self.gives((59 * 180 - 58 * 9, 58 * 9, 0), fullest, house, 0, 59, [1, 0])
        self.gives(True, crowd_can, house, 0, 59, (999, 522, 0))
        self.gives(False, crowd_can, house, 0, 59, (999, 523, 0))
        self.gives((1,), crowd_paper, house, 0, 59, (999, 523, 0))

    def test_rooms_that_lead_nowhere(self):
        house = ((0, 0, 1, 0, 0), ((0, 2, 1, 2, ()), (1, 2, 1, 1, ()), (3, 2, 1, 0, ()), (3, 0, 1, 1, (0, 1, 2, 3, 4))),
                 (None, 0, None, None, 3))
        self.gives(0, most_from, house, 0, 4, (1, 3, 4))
        self.gives((8, 0, 0, 0, 0), fullest, house, 0, 4, (4, 3, 1, 0))
        self.gives(True, crowd_can, house, 0, 4, (8, 0, 0, 0, 0))
        for room in (1, 3, 4):
            crowd = tuple([1 if at in (room, 0) else 0 for at in range(5)])
            self.gives((room,), crowd_paper, house, 0, 4, crowd)
            self.gives(True, crowd_bars, house, 0, 4, crowd, (room,))
            self.gives(False, crowd_bars, house, 0, 4, crowd, (0, room))
        self.gives(NO_ONE[:1], fullest, ((1,), (), (None,)), 0, 9, ())
        self.gives(True, crowd_can, ((1,), (), (None,)), 0, 9, (0,))
        self.gives(False, crowd_bars, ((1,), (), (None,)), 0, 9, (0,), (0,))


class Drawn(Case):
    def test_all_cuts(self):
        draw = random.Random(101)
        for _ in range(100):
            house = draw_house(draw, rooms=4, passages=6, beats=5)
            now = draw.choice((0, 0, 1))
            beat = now + draw.randint(0, 4)
            inside = [room for room, kind in enumerate(house[0]) if kind == 0]
            mosts = {rooms: most_by_cuts(house, now, beat, rooms) for rooms in all_lots(inside)}
            for rooms, most in mosts.items():
                self.gives(most, most_from, house, now, beat, rooms)
            for _ in range(6):
                crowd = tuple([0 if kind else draw.choice((0, 0, 1, 1, 2, 3)) for kind in house[0]])
                self.check_crowd(house, now, beat, crowd, mosts)
            order = tuple(draw.sample(inside, draw.randint(0, len(inside))))
            self.check_fullest(house, now, beat, order, mosts)

    def check_crowd(self, house, now, beat, crowd, mosts):
        can = can_by_cuts(house, now, beat, crowd, mosts)
        self.gives(can, crowd_can, house, now, beat, crowd)
        paper = crowd_paper(house, now, beat, crowd)
        self.gives(paper, crowd_paper, house, now, beat, crowd)
        self.assertEqual(paper is None, can)
        self.assertTrue(can or sum(crowd[room] for room in paper) > mosts[paper])
        for rooms in all_lots(range(len(house[0]))):
            bars = rooms in mosts and sum(crowd[room] for room in rooms) > mosts[rooms]
            self.gives(bars, crowd_bars, house, now, beat, crowd, rooms)
        # The crowd as people: all can be out, if they all are at once.
        people = tuple([(room, now, 0) for room, many in enumerate(crowd) for _ in range(many)])
        self.assertEqual(most_out((house, people, now, beat), beat) == len(people), can)

    def check_fullest(self, house, now, beat, order, mosts):
        many = [0] * len(house[0])
        for room in order:
            while can_by_cuts(house, now, beat, many, mosts):
                many[room] += 1
            many[room] -= 1
        self.gives(tuple(many), fullest, house, now, beat, order)

    def test_all_runs(self):
        draw = random.Random(102)
        told = 0
        while told < 60:
            house = draw_house(draw, rooms=4, passages=5, beats=4)
            inside = [room for room, kind in enumerate(house[0]) if kind == 0]
            beat = draw.randint(0, 3)
            if not inside:
                continue
            for rooms in itertools.combinations_with_replacement(inside, 3):
                task = (house, tuple([(room, 0, 0) for room in rooms]), 0, beat)
                runs = all_runs(task, 2000)
                if runs is None:
                    continue
                told += 1
                crowd = tuple([rooms.count(room) for room in range(len(house[0]))])
                most = max(out_numbers(task, run)[-1] for run in runs)
                self.gives(most == 3, crowd_can, house, 0, beat, crowd)
                self.assertLessEqual(most, most_from(house, 0, beat, tuple(sorted(set(rooms)))))

    def test_great(self):
        began = time.monotonic()
        for crowded in (False, True):
            house = great_task(103, crowded=crowded)[0]
            inside = tuple(range(18))
            order = inside[::-1]
            many = fullest(house, 0, 59, order)
            self.assertEqual(sum(many), most_from(house, 0, 59, inside))
            self.assertEqual(many[17], most_from(house, 0, 59, (17,)))
            for now, beat in ((0, 59), (7, 33), (59, 59)):
                crowd = tuple([min(999, one) for one in fullest(house, now, beat, order)])
                self.gives(True, crowd_can, house, now, beat, crowd)
                more = (crowd[0] + 1,) + crowd[1:]
                paper = crowd_paper(house, now, beat, more)
                self.gives(True, crowd_bars, house, now, beat, more, paper)
                self.gives(False, crowd_can, house, now, beat, (999,) * 18 + (0, 0))
        self.assertLess(time.monotonic() - began, 60)


if __name__ == "__main__":
    unittest.main()
