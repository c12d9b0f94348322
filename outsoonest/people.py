"""People: who they are, their order by urgency, lots of them, and where they are."""

from outsoonest.errors import BadPeople, NoPerson
from outsoonest.houses import check_house, is_beat, is_place
from outsoonest.words import is_ascending, is_row_of, is_sequence, is_within

MOST_PEOPLE = 60
MOST_URGENCY = 9


def is_person(house, value):
    """Whether any value is a person in a house."""
    if not is_row_of(value, 3):
        return False
    room, beat, urgency = value
    return (is_within(room, 0, len(house[0]) - 1) and is_beat(beat)
            and is_within(urgency, 0, MOST_URGENCY))


def people_in(house, value):
    """Any value that is people of a house, as tuples; BadPeople for any other one."""
    if not is_sequence(value):
        raise BadPeople(-1)
    for at, person in enumerate(value):
        if not is_person(house, person):
            raise BadPeople(at)
    if len(value) > MOST_PEOPLE:
        raise BadPeople(-1)
    return tuple([tuple(person) for person in value])


def check_people(house, value):
    """Any value that is people of the house, as tuples; BadHouse, then BadPeople."""
    return people_in(check_house(house), value)


def need_person(people, value):
    """Any value that is the number of one of some people; NoPerson for any other one."""
    if not is_within(value, 0, len(people) - 1):
        raise NoPerson(value)
    return value


def in_order(people):
    """The numbers of people, the more urgent first, of those alike the lesser number."""
    places = sorted([(person[2], at) for at, person in enumerate(people)])
    return tuple([at for _, at in places])


def is_lot_of(people, value):
    """Whether any value is a sequence of ascending numbers of people."""
    return is_ascending(value, len(people))


def lot_ranks(people, lot):
    """Along the order 0 for who is in the lot, 1 for others."""
    return tuple([0 if at in lot else 1 for at in in_order(people)])


def first_lot(people, lots):
    """The first of one lot or more."""
    ranks = [lot_ranks(people, lot) for lot in lots]
    return tuple(lots[ranks.index(min(ranks))])


def by_room(house, people, beat):
    """By room how many people are there at the beat, if all stay where they are or come."""
    many = [0] * len(house[0])
    for room, when, _ in people:
        if when <= beat:
            many[room] += 1
    return tuple(many)


def word_of(house, person, beat):
    """How a person is at a beat who stays where they are or come."""
    room, when, _ = person
    if beat < when:
        return "within"
    if house[0][room] == 1:
        return "out"
    return "there" if is_place(house, room, beat) else "lost"


def words_of(house, people, beat):
    """By person how they are at the beat, if all stay where they are or come."""
    return tuple([word_of(house, person, beat) for person in people])
