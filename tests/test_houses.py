"""Houses, edits, what is asked of them, and one alone in them: [8], [9], [10], [11]."""

import random
import unittest

from outsoonest.errors import BadHouse, NoBeat, NoPassage, NoRoom, Refused
from outsoonest.houses import (can_enter, check_house, cleared, entries, is_place, last_alone, passages_from,
                               passages_to, soonest_alone, way_alone, way_holds, ways_out, with_open, with_shut,
                               with_smoke, with_width)
from tests.draws import draw_house, smoky
from tests.helping import STRANGE, Case, deep

PLAIN = ((0, 0, 1), ((0, 1, 1, 1, ()), (1, 2, 2, 1, (3,)), (0, 2, 5, 1, ())), (None, 6, None))
GREAT = ((0,) * 18 + (1, 1), tuple([(at % 18, 19 - at % 2, 1 + at % 9, at % 10, tuple(range(at, 60, 7))) for at in range(60)]),
         tuple(range(42, 60)) + (None, None))

NO_BEATS = STRANGE + (60, 61, "3", (3,))
NO_ROOMS = STRANGE + (3, 20, (0,))
NO_PASSAGES = STRANGE + (3, 60, (0,))

BAD_HOUSES = (
    [(value, -1) for value in STRANGE + ((), (PLAIN,), PLAIN[:2], PLAIN + (0,), list(PLAIN) * 2)]
    + [((rooms, (), ()), 0) for rooms in STRANGE + ((), [], (0,) * 21, (2,), (0, 1, -1), [True], (0, False), (None,), ((0,),))]
    + [((PLAIN[0], rows, PLAIN[2]), 1)
       for rows in STRANGE[:11] + (NoBeat(1), PLAIN[1][0], (PLAIN[1][0],) * 61, ((0, 1, 1, 1),), ((0, 1, 1, 1, (), 0),), (None,))]
    + [((PLAIN[0], (PLAIN[1][0], row), PLAIN[2]), 1)
       for row in (None, (), deep(50), (0, 0, 1, 1, ()), (2, 0, 1, 1, ()), (0, 3, 1, 1, ()), (3, 0, 1, 1, ()), (-1, 1, 1, 1, ()),
                   (False, 1, 1, 1, ()), (0, True, 1, 1, ()), (0, 1, 0, 1, ()), (0, 1, 10, 1, ()), (0, 1, True, 1, ()),
                   (0, 1, 1, -1, ()), (0, 1, 1, 10, ()), (0, 1, 1, True, ()), (0, 1, 1, None, ()), (0, 1, 1, 1, None),
                   (0, 1, 1, 1, 3), (0, 1, 1, 1, (60,)), (0, 1, 1, 1, (-1,)), (0, 1, 1, 1, (3, 3)), (0, 1, 1, 1, (3, 2)),
                   (0, 1, 1, 1, (True,)), (0, 1, 1, 1, ((),)), (0, "1", 1, 1, ()), (0, 1, 1, 1, "3"))]
    + [((PLAIN[0], PLAIN[1], smoke), 2)
       for smoke in STRANGE[:11] + ((), (None,) * 2, (None,) * 4, (None, 60, None), (None, -1, None), (None, True, None),
                                    (False, None, None), (None, None, 5), (None, None, 0), (None, "3", None), ((), None, None))]
)


class Checked(Case):
    def test_houses(self):
        for house in (PLAIN, GREAT, ((0,), (), (None,)), ((1,), (), (None,)), ((0,), (), (0,)), ((0,), (), (59,)),
                      ((0, 1), ((0, 1, 9, 9, tuple(range(60))), (0, 1, 1, 0, (0, 59))), (None, None)),
                      ((0, 0), ((0, 1, 1, 1, ()), (0, 1, 1, 1, ()), (1, 0, 2, 3, ())), (3, 3))):
            self.gives(house, check_house, house)

    def test_no_houses(self):
        for value, at in BAD_HOUSES:
            self.told(BadHouse, at, check_house, value)

    def test_rooms_of_passages(self):
        inside = (0, 0)
        self.gives((inside, ((0, 1, 1, 1, ()), (1, 0, 1, 1, ())), (None,) * 2), check_house,
                   (inside, ((0, 1, 1, 1, ()), (1, 0, 1, 1, ())), (None,) * 2))
        for tail, head in ((-1, 0), (0, -1), (2, 0), (0, 2), (-2, 1), (1, -2), (None, 0), (0, None)):
            self.told(BadHouse, 1, check_house, (inside, ((tail, head, 1, 1, ()),), (None,) * 2))

    def test_the_first_part_is_told(self):
        self.told(BadHouse, 0, check_house, ((2,), None, None))
        self.told(BadHouse, 1, check_house, ((0,), None, None))
        self.told(BadHouse, 1, check_house, ((0,), ((0, 1, 1, 1, ()),), (60,)))

    def test_ahead_of_all_else(self):
        for value, at in BAD_HOUSES:
            for call, many in ((with_smoke, 2), (cleared, 1), (with_width, 2), (with_shut, 3), (with_open, 3),
                               (soonest_alone, 3), (last_alone, 1), (way_alone, 3), (way_holds, 4)):
                self.told(BadHouse, at, call, value, *[None] * many)


class Edits(Case):
    def test_with_smoke(self):
        self.gives((PLAIN[0], PLAIN[1], (0, 6, None)), with_smoke, PLAIN, 0, 0)
        self.gives((PLAIN[0], PLAIN[1], (None, 59, None)), with_smoke, PLAIN, 1, 59)
        self.gives((PLAIN[0], PLAIN[1], (None, 2, None)), with_smoke, PLAIN, 1, 2)

    def test_cleared(self):
        self.gives((PLAIN[0], PLAIN[1], (None, None, None)), cleared, PLAIN, 1)
        self.gives(PLAIN, cleared, PLAIN, 0)

    def test_with_width(self):
        for many in (0, 1, 9):
            self.gives((PLAIN[0], (PLAIN[1][0], (1, 2, 2, many, (3,)), PLAIN[1][2]), PLAIN[2]), with_width, PLAIN, 1, many)

    def test_with_shut(self):
        for low, high, shut in ((3, 3, (3,)), (2, 4, (2, 3, 4)), (0, 1, (0, 1, 3)), (58, 59, (3, 58, 59)), (5, 4, (3,)),
                                (0, 59, tuple(range(60)))):
            self.gives((PLAIN[0], (PLAIN[1][0], (1, 2, 2, 1, shut), PLAIN[1][2]), PLAIN[2]), with_shut, PLAIN, 1, low, high)

    def test_with_open(self):
        shut = with_shut(PLAIN, 0, 3, 7)
        for low, high, left in ((3, 7, ()), (0, 59, ()), (4, 5, (3, 6, 7)), (0, 3, (4, 5, 6, 7)), (5, 4, (3, 4, 5, 6, 7)),
                                (8, 59, (3, 4, 5, 6, 7))):
            self.gives((PLAIN[0], ((0, 1, 1, 1, left),) + PLAIN[1][1:], PLAIN[2]), with_open, shut, 0, low, high)

    def test_rooms(self):
        self.refuses(NoRoom, with_smoke, (PLAIN, 0, 0), 1, NO_ROOMS)
        self.refuses(NoRoom, with_smoke, (PLAIN, 0, None), 1, NO_ROOMS)
        self.refuses(NoRoom, cleared, (PLAIN, 0), 1, NO_ROOMS)
        self.told(Refused, 2, with_smoke, PLAIN, 2, 0)
        self.told(Refused, 2, with_smoke, PLAIN, 2, 60)
        self.told(Refused, 2, cleared, PLAIN, 2)
        self.refuses(NoBeat, with_smoke, (PLAIN, 0, 0), 2, NO_BEATS)

    def test_passages(self):
        self.refuses(NoPassage, with_width, (PLAIN, 0, 10), 1, NO_PASSAGES)
        self.refuses(Refused, with_width, (PLAIN, 0, 0), 2, STRANGE + (10, "1"))
        for call in (with_shut, with_open):
            self.refuses(NoPassage, call, (PLAIN, 0, 60, 60), 1, NO_PASSAGES)
            self.refuses(NoBeat, call, (PLAIN, 0, 0, 60), 2, NO_BEATS)
            self.refuses(NoBeat, call, (PLAIN, 0, 0, 0), 3, NO_BEATS)
        self.told(NoPassage, 0, with_width, ((0,), (), (None,)), 0, 0)


class Asked(Case):
    def test_ways_out(self):
        self.gives((2,), ways_out, PLAIN)
        self.gives((), ways_out, ((0,), (), (None,)))
        self.gives((0, 2), ways_out, ((1, 0, 1), (), (None,) * 3))

    def test_passages_from_and_to(self):
        house = ((0, 0, 1), ((0, 1, 1, 1, ()), (1, 2, 1, 1, ()), (0, 2, 1, 0, ()), (0, 1, 1, 1, ())), (None,) * 3)
        for room, leading, coming in ((0, (0, 2, 3), ()), (1, (1,), (0, 3)), (2, (), (1, 2))):
            self.gives(leading, passages_from, house, room)
            self.gives(coming, passages_to, house, room)
        for call in (passages_from, passages_to):
            self.refuses(NoRoom, call, (house, 0), 1, NO_ROOMS)

    def test_is_place(self):
        for beat in range(60):
            self.gives(True, is_place, PLAIN, 0, beat)
            self.gives(beat < 6, is_place, PLAIN, 1, beat)
            self.gives(True, is_place, PLAIN, 2, beat)

    def test_can_enter(self):
        for beat in range(60):
            self.gives(True, can_enter, PLAIN, 0, beat)
            self.gives(beat < 6 and beat != 3, can_enter, PLAIN, 1, beat)
            self.gives(False, can_enter, with_width(PLAIN, 1, 0), 1, beat)

    def test_entries(self):
        self.gives((0, 1, 2, 3, 4), entries, PLAIN, 0, 0, 9)
        self.gives((1, 2, 4, 5), entries, PLAIN, 1, 1, 59)
        self.gives((1, 2, 4), entries, PLAIN, 1, 1, 6)
        self.gives((), entries, PLAIN, 1, 5, 6)
        self.gives((5,), entries, PLAIN, 1, 5, 7)
        self.gives((), entries, PLAIN, 2, 0, 4)
        self.gives((0,), entries, PLAIN, 2, 0, 5)
        self.gives((), entries, PLAIN, 0, 9, 3)
        self.gives((54,), entries, PLAIN, 2, 54, 59)


def stays(house, room, beat, end):
    """All (room, beat) at which one alone can be, and is not in smoke."""
    found, rest = set(), [(room, beat)]
    while rest:
        room, beat = rest.pop()
        if beat > end or smoky(house, room, beat) or (room, beat) in found:
            continue
        found.add((room, beat))
        if house[0][room] == 0:
            rest.append((room, beat + 1))
        for tail, head, length, width, shut in house[1]:
            if tail == room and width and beat not in shut:
                rest.append((head, beat + length))
    return found


def is_out(house, found):
    return any(house[0][room] == 1 for room, _ in found)


class Alone(Case):
    def test_smoke(self):
        house = ((0, 0, 1), ((0, 1, 2, 1, ()), (1, 2, 1, 1, ())), (None, 3, None))
        self.gives((0, 2, 3), soonest_alone, house, 0, 0, 9)
        self.gives((1, None, None), soonest_alone, house, 0, 1, 9)
        self.gives((None, None, None), soonest_alone, house, 1, 3, 9)
        self.gives((None, 2, 3), soonest_alone, house, 1, 2, 9)
        self.gives((0, 2, 9), last_alone, house, 9)
        self.gives(None, way_alone, house, 0, 1, 9)
        self.gives(False, way_holds, house, 0, 1, 9, ((0, 1), (1, 3)))
        self.gives(True, way_holds, house, 0, 0, 9, ((0, 0), (1, 2)))
        self.gives(False, way_holds, house, 1, 3, 9, ())

    def test_the_end_ahead(self):
        for room in range(3):
            self.gives((None, None, None), soonest_alone, PLAIN, room, 5, 4)
            self.gives(None, way_alone, PLAIN, room, 5, 4)
            self.gives(False, way_holds, PLAIN, room, 5, 4, ())
        self.gives((None, None, 5), soonest_alone, PLAIN, 2, 5, 5)
        self.gives((), way_alone, PLAIN, 2, 5, 5)
        self.gives(True, way_holds, PLAIN, 2, 5, 5, ())
        self.gives((None, None, 0), last_alone, PLAIN, 0)
        self.gives((None, 0), last_alone, ((0, 1), ((0, 1, 1, 1, ()),), (None, None)), 0)
        self.gives((0, 1), last_alone, ((0, 1), ((0, 1, 1, 1, ()),), (None, None)), 1)

    def test_greatest_house(self):
        first = soonest_alone(GREAT, 0, 0, 59)
        self.assertEqual(len(first), 20)
        self.assertTrue(way_holds(GREAT, 0, 0, 59, way_alone(GREAT, 0, 0, 59)))
        self.assertEqual(last_alone(GREAT, 59)[18:], (59, 59))

    def test_drawn_houses(self):
        draw = random.Random(11)
        for _ in range(250):
            house, end = draw_house(draw), draw.randrange(9)
            last = last_alone(house, end)
            self.gives(last, last_alone, house, end)
            for room in range(len(house[0])):
                for beat in range(9):
                    found = stays(house, room, beat, end)
                    self.assertEqual(is_out(house, found), last[room] is not None and beat <= last[room])
                    first = tuple([min([when for at, when in found if at == other], default=None)
                                   for other in range(len(house[0]))])
                    self.assertEqual(soonest_alone(house, room, beat, end), first)
                    self.check_way(house, room, beat, end, first)

    def check_way(self, house, room, beat, end, first):
        way = way_alone(house, room, beat, end)
        soonest = min([first[at] for at in ways_out(house) if first[at] is not None], default=None)
        self.assertEqual(way is None, soonest is None)
        if way is not None:
            self.gives(True, way_holds, house, room, beat, end, way)
            self.assertIs(type(way), tuple)
            came = way[-1][1] + house[1][way[-1][0]][2] if way else beat
            self.assertEqual(came, soonest)
            self.assertTrue(way_holds(house, room, beat, soonest, way))
            self.assertFalse(soonest > beat and way_holds(house, room, beat, soonest - 1, way))

    def test_all_ways(self):
        draw = random.Random(12)
        for _ in range(60):
            house = draw_house(draw, rooms=3, passages=3, beats=4, length=2)
            end = draw.randrange(4)
            room, beat = draw.randrange(len(house[0])), draw.randrange(3)
            rows = [()]
            for _ in range(3):
                rows += [row + ((passage, when),) for row in rows for passage in range(len(house[1])) for when in range(4)]
            for row in set(rows):
                self.assertIs(way_holds(house, room, beat, end, row), self.plain_holds(house, room, beat, end, row))

    def plain_holds(self, house, room, beat, end, row):
        for passage, when in row:
            tail, head, length, width, shut = house[1][passage]
            if tail != room or when < beat or width == 0 or when in shut:
                return False
            if any(smoky(house, room, at) for at in range(beat, when + 1)):
                return False
            room, beat = head, when + length
        return house[0][room] == 1 and beat <= end

    def test_no_rows(self):
        for value in STRANGE + ((0, 0), ((0,),), ((0, 0, 0),), ((3, 0),), ((0, True),), ((True, 0),), ((0, 60),),
                                ((-1, 0),), (None,), ("00",), ((0, None),)):
            self.gives(False, way_holds, PLAIN, 0, 0, 9, value)
        self.gives(True, way_holds, PLAIN, 0, 0, 9, ((0, 0), (1, 2)))
        self.gives(False, way_holds, PLAIN, 0, 0, 9, ((0, 0), (1, 3)))
        self.gives(False, way_holds, PLAIN, 0, 0, 9, ((0, 0), (1, 0)))
        self.gives(False, way_holds, PLAIN, 0, 0, 9, ((0, 2), (1, 2)))
        self.gives(False, way_holds, PLAIN, 0, 0, 9, ((2, True),))
        self.gives(False, way_holds, PLAIN, 0, 0, 9, ((-1, 0),))
        self.gives(False, way_holds, PLAIN, 0, 0, 9, ((0, 0),))
        self.gives(False, way_holds, PLAIN, 0, 0, 9, ((2, 5),))
        self.gives(True, way_holds, PLAIN, 0, 0, 9, ((2, 4),))
        self.gives(False, way_holds, with_width(PLAIN, 2, 0), 0, 0, 9, ((2, 4),))

    def test_worse_houses(self):
        draw = random.Random(13)
        for _ in range(80):
            house = draw_house(draw)
            end = draw.randrange(9)
            worse = house
            for room, kind in enumerate(house[0]):
                if kind == 0 and draw.random() < 0.4:
                    before = house[2][room]
                    worse = with_smoke(worse, room, draw.randrange(60 if before is None else before + 1))
            for passage in range(len(house[1])):
                worse = draw.choice((worse, with_width(worse, passage, 0), with_shut(worse, passage, 1, 2)))
            for room in range(len(house[0])):
                for one, other in zip(soonest_alone(house, room, 0, end), soonest_alone(worse, room, 0, end)):
                    self.assertTrue(other is None or one is not None and one <= other)

    def test_errors(self):
        for call, more in ((soonest_alone, ()), (way_alone, ()), (way_holds, ((),))):
            self.refuses(NoRoom, call, (PLAIN, 0, 60, 60) + more, 1, NO_ROOMS)
            self.refuses(NoBeat, call, (PLAIN, 0, 0, 60) + more, 2, NO_BEATS)
            self.refuses(NoBeat, call, (PLAIN, 0, 0, 0) + more, 3, NO_BEATS)
        self.refuses(NoBeat, last_alone, (PLAIN, 0), 1, NO_BEATS)


if __name__ == "__main__":
    unittest.main()
