"""Floors: parts of a house that are left by one stair each, planned one after another."""

from outsoonest.errors import Refused
from outsoonest.soonest import soonest_of
from outsoonest.unrolled import check_task
from outsoonest.words import is_ascending, is_row_of, is_sequence, is_within


def is_closed(house, rooms, stair):
    """Whether each passage out of some rooms begins at the stair, and none leads into them from others."""
    for tail, head, _, _, _ in house[1]:
        if tail in rooms and head not in rooms and tail != stair:
            return False
        if head in rooms and tail not in rooms:
            return False
    return True


def is_floor(house, value):
    """Whether any value is a floor of a house."""
    if not is_row_of(value, 2):
        return False
    rooms, stair = value
    if not is_ascending(rooms, len(house[0])) or [room for room in rooms if house[0][room] == 1]:
        return False
    return is_within(stair, 0, len(house[0]) - 1) and stair in rooms and is_closed(house, rooms, stair)


def need_floor(task, value):
    """Any value that is a floor of a checked task's house, as tuples; Refused for any other one."""
    if not is_floor(task[0], value):
        raise Refused(value)
    return tuple(value[0]), value[1]


def check_floor(task, value):
    """Any value that is a floor of the task's house, as tuples; Refused for any other one."""
    return need_floor(check_task(task), value)


def floor_house(house, rooms, stair):
    """The house of a floor's rooms alone, numbered along them, whose way out is the stair."""
    at = {room: number for number, room in enumerate(rooms)}
    passages = [(at[tail], at[head], length, width, shut) for tail, head, length, width, shut in house[1]
                if tail in rooms and head in rooms and tail != stair]
    return (tuple([1 if room == stair else 0 for room in rooms]), tuple(passages),
            tuple([None if room == stair else house[2][room] for room in rooms]))


def came(task, rooms, stair):
    """By beat of a checked task how many who begin in a floor's rooms can be at its stair by then at most."""
    house, people, now, end = task
    smoke = house[2][stair]
    # Behind smoke at the stair nobody comes there any more, but who came still counts.
    last = end if smoke is None else min(end, smoke - 1)
    if last < now:
        return (0,) * (end - now + 1)
    people = tuple([(rooms.index(room), beat, urgency) for room, beat, urgency in people if room in rooms])
    numbers = soonest_of((floor_house(house, rooms, stair), people, now, last))
    return numbers + numbers[-1:] * (end - last)


def came_to(task, floor):
    """By beat how many of those who begin in the floor's rooms can be at its stair by then at most."""
    task = check_task(task)
    rooms, stair = need_floor(task, floor)
    return came(task, rooms, stair)


def rest_of(task, floor):
    """The checked task with, for those who begin in a floor, as many who begin at its stair as can be there by when."""
    house, people, now, end = task
    rooms, stair = floor
    rest = [person for person in people if person[0] not in rooms]
    ahead = 0
    for at, many in enumerate(came(task, rooms, stair)):
        rest.extend([(stair, now + at, 0)] * (many - ahead))
        ahead = many
    return house, tuple(rest), now, end


def rest_task(task, floor):
    """The task without those who begin in the floor, and with those who can be at its stair by when."""
    task = check_task(task)
    return rest_of(task, need_floor(task, floor))


def by_floors(task, floors):
    """How many can be out by each beat, at most, each floor in turn having been so treated."""
    task = check_task(task)
    if not is_sequence(floors) or not all([is_floor(task[0], floor) for floor in floors]):
        raise Refused(floors)
    for rooms, stair in floors:
        task = rest_of(task, (tuple(rooms), stair))
    return soonest_of(task)
