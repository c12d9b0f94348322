"""People, their order, lots, and where they are: [12], [13], [14]."""

import itertools
import random
import unittest

from outsoonest.errors import BadHouse, BadPeople, NoPerson
from outsoonest.people import (by_room, check_people, first_lot, in_order, is_lot_of, lot_ranks, need_person,
                               words_of)
from tests.draws import all_lots, smoky
from tests.helping import STRANGE, Case, deep

HOUSE = ((0, 0, 1), ((0, 1, 1, 1, ()), (1, 2, 2, 1, (3,))), (None, 6, None))
PEOPLE = ((0, 0, 2), (1, 4, 0), (2, 0, 5), (1, 0, 2))

NO_PERSONS = STRANGE[:11] + ((), (0, 0), (0, 0, 0, 0), (3, 0, 0), (-1, 0, 0), (0, 60, 0), (0, -1, 0), (0, 0, 10), (0, 0, -1),
                             (True, 0, 0), (0, False, 0), (0, 0, True), (None, 0, 0), (0, None, 0), (0, 0, None), deep(50),
                             ((0,), 0, 0), "000", BadPeople(0))


class Checked(Case):
    def test_people(self):
        for people in ((), PEOPLE, ((0, 59, 9),) * 60, ((2, 0, 0),), ((1, 59, 0), (0, 0, 9))):
            self.gives(people, check_people, HOUSE, people)

    def test_no_people(self):
        for value in STRANGE[:11] + (BadHouse(1), "people"):
            self.told(BadPeople, -1, check_people, HOUSE, value)
        for value in NO_PERSONS:
            self.told(BadPeople, 0, check_people, HOUSE, (value,))
            self.told(BadPeople, 2, check_people, HOUSE, [[0, 0, 0], (1, 1, 1), value, value])
            self.told(BadPeople, 60, check_people, HOUSE, ((0, 0, 0),) * 60 + (value,))
        self.told(BadPeople, -1, check_people, HOUSE, ((0, 0, 0),) * 61)
        self.told(BadPeople, 61, check_people, HOUSE, ((0, 0, 0),) * 61 + (0,))

    def test_the_house_is_looked_at_first(self):
        self.told(BadHouse, -1, check_people, None, None)
        self.told(BadHouse, 0, check_people, ((2,), (), (None,)), ((0, 0),))
        self.told(BadHouse, 1, check_people, ((0,), None, (None,)), PEOPLE)
        self.told(BadHouse, 2, check_people, ((0,), (), (60,)), PEOPLE)

    def test_need_person(self):
        for person in range(4):
            self.gives(person, need_person, PEOPLE, person)
        self.refuses(NoPerson, need_person, (PEOPLE, 0), 1, STRANGE + (4, 60, (0,)))
        self.refuses(NoPerson, need_person, ((), 0), 1, (0, 1, None))


def first_of(people, one, other):
    """Whether the one lot is ahead of the other one, by the words of [13]."""
    for person in sorted(range(len(people)), key=lambda at: (people[at][2], at)):
        if (person in one) != (person in other):
            return person in one
    return None


class Order(Case):
    def test_in_order(self):
        self.gives((1, 0, 3, 2), in_order, PEOPLE)
        self.gives((), in_order, ())
        self.gives(tuple(range(60)), in_order, ((0, 0, 4),) * 60)
        self.gives(tuple(range(59, -1, -1)), in_order, tuple([(0, 0, 59 - at) for at in range(60)]))
        draw = random.Random(3)
        for _ in range(50):
            people = tuple([(0, 0, draw.randrange(10)) for _ in range(draw.randrange(61))])
            order = in_order(people)
            self.assertEqual(sorted(order), list(range(len(people))))
            for one, other in zip(order, order[1:]):
                self.assertLess((people[one][2], one), (people[other][2], other))

    def test_is_lot_of(self):
        for lot in all_lots(range(4)):
            self.gives(True, is_lot_of, PEOPLE, lot)
        for value in STRANGE + ((4,), (0, 4), (1, 0), (1, 1), (-1, 0), (True,), (0, None), ((0,),), "01"):
            self.gives(False, is_lot_of, PEOPLE, value)
        self.gives(True, is_lot_of, (), ())
        self.gives(False, is_lot_of, (), (0,))

    def test_lot_ranks(self):
        self.gives((1, 0, 1, 0), lot_ranks, PEOPLE, (0, 2))
        self.gives((1, 1, 1, 1), lot_ranks, PEOPLE, ())
        self.gives((0, 0, 0, 0), lot_ranks, PEOPLE, (0, 1, 2, 3))
        self.gives((), lot_ranks, (), ())

    def test_of_two_lots(self):
        for urgencies in itertools.product((0, 1, 5), repeat=4):
            people = tuple([(0, 0, urgency) for urgency in urgencies])
            lots = all_lots(range(4))
            for one, other in itertools.permutations(lots, 2):
                ahead = first_of(people, one, other)
                self.assertIs(ahead, not first_of(people, other, one))
                self.assertIs(lot_ranks(people, one) < lot_ranks(people, other), ahead)
                self.assertEqual(first_lot(people, (one, other)), one if ahead else other)
                if set(one) > set(other):
                    self.assertTrue(ahead)

    def test_first_lot(self):
        self.gives((1, 3), first_lot, PEOPLE, ((0, 2, 3), (1,), (1, 3)))
        self.gives((), first_lot, PEOPLE, ((),))
        self.gives((0,), first_lot, PEOPLE, ((), (0,)))
        self.gives((1,), first_lot, PEOPLE, ((0, 2, 3), (1,)))
        self.gives((), first_lot, (), ((), ()))
        draw = random.Random(4)
        for _ in range(40):
            people = tuple([(0, 0, draw.randrange(3)) for _ in range(6)])
            lots = draw.sample(all_lots(range(6)), draw.randint(1, 12))
            first = first_lot(people, lots)
            self.gives(first, first_lot, people, tuple(lots))
            self.assertEqual([lot for lot in lots if not any(first_of(people, other, lot) for other in lots)], [first])

    def test_three_hundred_lots(self):
        draw = random.Random(5)
        people = tuple([(0, 0, draw.randrange(10)) for _ in range(60)])
        lots = [tuple(sorted(draw.sample(range(60), draw.randrange(61)))) for _ in range(300)]
        first = first_lot(people, lots)
        self.assertFalse([lot for lot in lots if first_of(people, lot, first)])


class Where(Case):
    def test_by_room(self):
        self.gives((1, 1, 1), by_room, HOUSE, PEOPLE, 3)
        self.gives((1, 2, 1), by_room, HOUSE, PEOPLE, 4)
        self.gives((1, 2, 1), by_room, HOUSE, PEOPLE, 59)
        self.gives((0, 0, 0), by_room, HOUSE, (), 0)
        self.gives((0, 60, 0), by_room, HOUSE, ((1, 7, 0),) * 60, 7)

    def test_words_of(self):
        self.gives((), words_of, HOUSE, (), 0)
        self.gives(("there", "within", "out", "there"), words_of, HOUSE, PEOPLE, 3)
        self.gives(("there", "there", "out", "there"), words_of, HOUSE, PEOPLE, 5)
        self.gives(("there", "lost", "out", "lost"), words_of, HOUSE, PEOPLE, 6)
        self.gives(("within", "within"), words_of, HOUSE, ((1, 9, 0), (2, 9, 0)), 8)
        self.gives(("lost", "out"), words_of, HOUSE, ((1, 9, 0), (2, 9, 0)), 9)

    def test_all_beats(self):
        draw = random.Random(6)
        for _ in range(30):
            people = tuple([(draw.randrange(3), draw.randrange(12), draw.randrange(10)) for _ in range(6)])
            for beat in range(13):
                words = words_of(HOUSE, people, beat)
                for word, (room, when, _) in zip(words, people):
                    self.assertEqual(word == "within", beat < when)
                    self.assertEqual(word == "out", beat >= when and room == 2)
                    self.assertEqual(word == "lost", beat >= when and smoky(HOUSE, room, beat))
                self.assertEqual(sum(by_room(HOUSE, people, beat)), len([word for word in words if word != "within"]))
                self.assertEqual(by_room(HOUSE, people, beat)[2], words.count("out"))


if __name__ == "__main__":
    unittest.main()
