"""Crowds: so many persons by room, who are there now, and whether all can be out by a beat."""

from outsoonest.errors import NoBeat, Refused
from outsoonest.houses import check_house, need_beat
from outsoonest.residue import Residue
from outsoonest.unrolled import doors_of, numbers_of, places_of, steps_of
from outsoonest.words import is_ascending, is_row_of, is_sequence, is_within

# A crowd has fewer than this in each room.
CROWD = 1000


class Leaving(Residue):
    """A house's net from now to a beat, led on from rooms.

    `rooms` has by room the node from which those there now set out, `place`
    where that leads (to itself, if there is smoke), `last` is the node to
    which the ways out lead.
    """

    def __init__(self, house, now, beat, crowd):
        task = house, (), now, beat
        many = len(places_of(task))
        numbers = numbers_of(task)
        self.rooms = tuple(range(many, many + len(house[0])))
        self.last = many + len(house[0])
        self.place = tuple([numbers.get((room, now), node) for room, node in enumerate(self.rooms)])
        arcs = [arc[3:] for arc in steps_of(task)]
        self.first_link = len(arcs)
        arcs.extend([(node, place, most) for node, place, most in zip(self.rooms, self.place, crowd)])
        for doors in doors_of(task):
            arcs.extend([(door, self.last, None) for door in doors])
        Residue.__init__(self, (self.last + 1, arcs), [0] * len(arcs))

    def lead(self, room):
        """Leads out as many of a room as can be beside those who are; how many these are."""
        self.go_all(self.rooms[room], self.last)
        return self.left[2 * (self.first_link + room) + 1]

    def rooms_met(self, room):
        """Ascending the rooms whose people can come to where some of this room still can be led."""
        met = self.met_from(self.rooms[room])
        return tuple([at for at, place in enumerate(self.place) if met[place]])


def need_span(house, now, beat):
    """The house, as tuples, where the others are a beat and one that is not less."""
    house = check_house(house)
    need_beat(now)
    need_beat(beat)
    if beat < now:
        raise NoBeat(beat)
    return house


def is_rooms_inside(house, value):
    """Whether any value is ascending rooms that are no ways out."""
    return is_ascending(value, len(house[0])) and not [room for room in value if house[0][room] == 1]


def need_crowd(house, value):
    """Any value that is a crowd, as a tuple; Refused for any other one."""
    if not is_row_of(value, len(house[0])):
        raise Refused(value)
    if not all([is_within(many, 0, 0 if kind == 1 else CROWD - 1) for kind, many in zip(house[0], value)]):
        raise Refused(value)
    return tuple(value)


def filled(house, now, beat, rooms):
    """By room how many can be there at most, if these rooms are filled one after another; 0 in others."""
    leaving = Leaving(house, now, beat, [None] * len(house[0]))
    many = [0] * len(house[0])
    for room in rooms:
        many[room] = leaving.lead(room)
    return tuple(many)


def most_from(house, now, beat, rooms):
    """How many of whoever is in some rooms now can be out by the beat at most."""
    house = need_span(house, now, beat)
    if not is_rooms_inside(house, rooms):
        raise Refused(rooms)
    return sum(filled(house, now, beat, rooms))


def paper_of(house, now, beat, crowd):
    """Some rooms that hold more of a crowd than can be out; None if all can be."""
    leaving = Leaving(house, now, beat, crowd)
    for room, many in enumerate(crowd):
        # Whoever is left here can be led out beside those of later rooms still less.
        if leaving.lead(room) < many:
            return tuple([other for other in leaving.rooms_met(room) if crowd[other] > 0])
    return None


def crowd_can(house, now, beat, crowd):
    """Whether all of a crowd can be out by the beat."""
    house = need_span(house, now, beat)
    return paper_of(house, now, beat, need_crowd(house, crowd)) is None


def crowd_paper(house, now, beat, crowd):
    """None if all of a crowd can be out, else some rooms that hold more than can be."""
    house = need_span(house, now, beat)
    return paper_of(house, now, beat, need_crowd(house, crowd))


def crowd_bars(house, now, beat, crowd, value):
    """Whether any value is ascending rooms that hold more of a crowd than can be out of them."""
    house = need_span(house, now, beat)
    crowd = need_crowd(house, crowd)
    if not is_rooms_inside(house, value):
        return False
    return sum([crowd[room] for room in value]) > sum(filled(house, now, beat, value))


def is_order(house, value):
    """Whether any value is a sequence of unlike rooms that are no ways out."""
    if not is_sequence(value):
        return False
    if not all([is_within(room, 0, len(house[0]) - 1) and house[0][room] == 0 for room in value]):
        return False
    return len({room: True for room in value}) == len(value)


def fullest(house, now, beat, order):
    """By room how many can be there at most, if the rooms are filled one after another in that order."""
    house = need_span(house, now, beat)
    if not is_order(house, order):
        raise Refused(order)
    return filled(house, now, beat, order)
