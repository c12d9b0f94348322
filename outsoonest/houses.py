"""Houses: their rooms, passages and smoke, edits, and one alone in them."""

from outsoonest.errors import BadHouse, NoBeat, NoPassage, NoRoom, Refused
from outsoonest.words import is_ascending, is_row_of, is_sequence, is_within

# Beats are numbers below this.
BEATS = 60

MOST_ROOMS = 20
MOST_PASSAGES = 60
MOST_LENGTH = 9
MOST_WIDTH = 9


def is_beat(value):
    """Whether any value is a beat."""
    return is_within(value, 0, BEATS - 1)


def is_rooms(value):
    """Whether any value tells rooms: for each one whether it is a way out."""
    return (is_sequence(value) and 1 <= len(value) <= MOST_ROOMS
            and all([is_within(kind, 0, 1) for kind in value]))


def is_passage(rooms, value):
    """Whether any value is a passage between these rooms."""
    if not is_row_of(value, 5):
        return False
    tail, head, length, width, shut = value
    last = len(rooms) - 1
    if not is_within(tail, 0, last) or not is_within(head, 0, last):
        return False
    return (tail != head and rooms[tail] == 0 and is_within(length, 1, MOST_LENGTH)
            and is_within(width, 0, MOST_WIDTH) and is_ascending(shut, BEATS))


def is_passages(rooms, value):
    """Whether any value tells the passages between these rooms."""
    return (is_sequence(value) and len(value) <= MOST_PASSAGES
            and all([is_passage(rooms, passage) for passage in value]))


def is_smoke(rooms, value):
    """Whether any value tells the smoke of these rooms."""
    if not is_row_of(value, len(rooms)):
        return False
    return all([beat is None or kind == 0 and is_beat(beat) for kind, beat in zip(rooms, value)])


def check_house(value):
    """Any value that is a house, as tuples; BadHouse for any other one."""
    if not is_row_of(value, 3):
        raise BadHouse(-1)
    rooms, passages, smoke = value
    if not is_rooms(rooms):
        raise BadHouse(0)
    if not is_passages(rooms, passages):
        raise BadHouse(1)
    if not is_smoke(rooms, smoke):
        raise BadHouse(2)
    return (tuple(rooms), tuple([tuple_of_passage(passage) for passage in passages]), tuple(smoke))


def tuple_of_passage(passage):
    """A passage as a tuple, also the beats within it."""
    tail, head, length, width, shut = passage
    return tail, head, length, width, tuple(shut)


def need_room(house, value):
    """NoRoom for any value that is no room of the house."""
    if not is_within(value, 0, len(house[0]) - 1):
        raise NoRoom(value)


def need_inside(house, value):
    """NoRoom for any value that is no room, Refused for a way out."""
    need_room(house, value)
    if house[0][value] == 1:
        raise Refused(value)


def need_passage(house, value):
    """NoPassage for any value that is no number of a passage of the house."""
    if not is_within(value, 0, len(house[1]) - 1):
        raise NoPassage(value)


def need_beat(value):
    """NoBeat for any value that is no beat."""
    if not is_beat(value):
        raise NoBeat(value)


def replaced(row, at, part):
    """A tuple with another part at one place."""
    return row[:at] + (part,) + row[at + 1:]


def with_smoke_from(house, room, beat):
    """The house with smoke in a room from a beat on, or None for no smoke."""
    rooms, passages, smoke = house
    return rooms, passages, replaced(smoke, room, beat)


def with_passage(house, at, passage):
    """The house with another passage in the place of one."""
    rooms, passages, smoke = house
    return rooms, replaced(passages, at, passage), smoke


def with_smoke(house, room, beat):
    """The house with smoke in the room from this beat on, whatever there was."""
    house = check_house(house)
    need_inside(house, room)
    need_beat(beat)
    return with_smoke_from(house, room, beat)


def cleared(house, room):
    """The house without smoke in the room."""
    house = check_house(house)
    need_inside(house, room)
    return with_smoke_from(house, room, None)


def with_width(house, passage, many):
    """The house in which so many can enter the passage in a beat."""
    house = check_house(house)
    need_passage(house, passage)
    if not is_within(many, 0, MOST_WIDTH):
        raise Refused(many)
    tail, head, length, _, shut = house[1][passage]
    return with_passage(house, passage, (tail, head, length, many, shut))


def checked_span(house, passage, low, high):
    """The house, as tuples, where the others are a passage of it and two beats."""
    house = check_house(house)
    need_passage(house, passage)
    need_beat(low)
    need_beat(high)
    return house


def with_shut(house, passage, low, high):
    """The house in which nobody can enter the passage from low to high, besides."""
    house = checked_span(house, passage, low, high)
    tail, head, length, width, shut = house[1][passage]
    beats = [beat for beat in range(BEATS) if low <= beat <= high or beat in shut]
    return with_passage(house, passage, (tail, head, length, width, tuple(beats)))


def with_open(house, passage, low, high):
    """The house in which the passage is not shut from low to high."""
    house = checked_span(house, passage, low, high)
    tail, head, length, width, shut = house[1][passage]
    beats = [beat for beat in shut if not low <= beat <= high]
    return with_passage(house, passage, (tail, head, length, width, tuple(beats)))


def ways_out(house):
    """The ways out, ascending."""
    return tuple([room for room, kind in enumerate(house[0]) if kind == 1])


def passages_from(house, room):
    """The numbers of the passages that lead out of a room, ascending."""
    need_room(house, room)
    return tuple([at for at, passage in enumerate(house[1]) if passage[0] == room])


def passages_to(house, room):
    """The numbers of the passages that lead into a room, ascending."""
    need_room(house, room)
    return tuple([at for at, passage in enumerate(house[1]) if passage[1] == room])


def is_place(house, room, beat):
    """Whether there is no smoke in a room at a beat."""
    since = house[2][room]
    return since is None or beat < since


def can_enter(house, passage, beat):
    """Whether a passage can be entered at a beat, its width and its tail's smoke told too."""
    tail, _, _, width, shut = house[1][passage]
    return width > 0 and beat not in shut and is_place(house, tail, beat)


def entries(house, passage, low, high):
    """The beats from low on at which one can enter to come to the head by high, no smoke there."""
    _, head, length, _, _ = house[1][passage]
    return tuple([beat for beat in range(low, high - length + 1)
                  if can_enter(house, passage, beat) and is_place(house, head, beat + length)])


def comings(house, room, beat, end):
    """By room the first beat at which one alone can be there, and the entry that leads there."""
    first = [None] * len(house[0])
    entered = [None] * len(house[0])
    if end < beat or not is_place(house, room, beat):
        return first, entered
    first[room] = beat
    changed = True
    while changed:
        changed = False
        for at, (tail, head, length, _, _) in enumerate(house[1]):
            # Who comes sooner can stand, so the first entry is the best one.
            when = [] if first[tail] is None else entries(house, at, first[tail], end)
            if when and (first[head] is None or when[0] + length < first[head]):
                first[head] = when[0] + length
                entered[head] = (at, when[0])
                changed = True
    return first, entered


def check_alone(house, room, beat, end):
    """The house, as tuples, where the others are a room of it and two beats."""
    house = check_house(house)
    need_room(house, room)
    need_beat(beat)
    need_beat(end)
    return house


def soonest_alone(house, room, beat, end):
    """By room the first beat, up to the end, at which one alone can be there; None for never."""
    house = check_alone(house, room, beat, end)
    first, _ = comings(house, room, beat, end)
    return tuple(first)


def last_alone(house, end):
    """By room the last beat at which one alone there can still be out by the end; None for never."""
    house = check_house(house)
    need_beat(end)
    last = [end if kind == 1 else None for kind in house[0]]
    changed = True
    while changed:
        changed = False
        for at, (tail, head, _, _, _) in enumerate(house[1]):
            when = [] if last[head] is None else entries(house, at, 0, last[head])
            if when and (last[tail] is None or when[-1] > last[tail]):
                last[tail] = when[-1]
                changed = True
    return tuple(last)


def way_alone(house, room, beat, end):
    """Some row of (passage, beat) by which one alone is out as soon as can be; None for none."""
    house = check_alone(house, room, beat, end)
    first, entered = comings(house, room, beat, end)
    outs = [(first[door], door) for door in ways_out(house) if first[door] is not None]
    if not outs:
        return None
    _, at = min(outs)
    way = []
    while entered[at] is not None:
        way.append(entered[at])
        at = house[1][entered[at][0]][0]
    way.reverse()
    return tuple(way)


def is_entry(house, value):
    """Whether any value is a pair of a passage of the house and a beat."""
    return is_row_of(value, 2) and is_within(value[0], 0, len(house[1]) - 1) and is_beat(value[1])


def way_holds(house, room, beat, end, value):
    """Whether any value is a row by which one alone is out by the end, soonest or not."""
    house = check_alone(house, room, beat, end)
    if not is_sequence(value) or not all([is_entry(house, entry) for entry in value]):
        return False
    if end < beat or not is_place(house, room, beat):
        return False
    for passage, when in value:
        tail, head, length, _, _ = house[1][passage]
        if tail != room or when not in entries(house, passage, beat, end):
            return False
        room = head
        beat = when + length
    return house[0][room] == 1
