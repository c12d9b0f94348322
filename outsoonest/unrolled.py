"""Tasks, the house unrolled by beats into places and arcs, and flows of it."""

from outsoonest.errors import BadHouse, BadPeople, NoBeat, Refused
from outsoonest.houses import check_house, is_beat, is_place
from outsoonest.people import is_lot_of, people_in
from outsoonest.words import is_number, is_row_of, is_within


def plain_task(value):
    """Any value that is a task, as tuples; None for any other one."""
    if not is_row_of(value, 4):
        return None
    try:
        house = check_house(value[0])
        people = people_in(house, value[1])
    except (BadHouse, BadPeople):
        return None
    now, end = value[2], value[3]
    if not is_beat(now) or not is_beat(end) or end < now:
        return None
    if [person for person in people if person[1] < now]:
        return None
    return house, people, now, end


def check_task(value):
    """Any value that is a task, as tuples; Refused for any other one."""
    task = plain_task(value)
    if task is None:
        raise Refused(value)
    return task


def with_people(task, people):
    """The task with other people; Refused with the task that would come, if it is none."""
    house, _, now, end = check_task(task)
    return check_task((house, people, now, end))


def need_lot_of(task, value):
    """Any value that is a lot of a checked task's people, as a tuple; Refused for any other one."""
    if not is_lot_of(task[1], value):
        raise Refused(value)
    return tuple(value)


def of_lot(task, lot):
    """The checked task of a lot of its people alone."""
    house, people, now, end = task
    return house, tuple([people[person] for person in lot]), now, end


def part_of(task, lot):
    """The task of a lot of its people alone."""
    task = check_task(task)
    return of_lot(task, need_lot_of(task, lot))


def need_beat_of(task, value):
    """NoBeat for any value that is no beat from now to the end of a checked task."""
    if not is_within(value, task[2], task[3]):
        raise NoBeat(value)


def ending(task, beat):
    """The checked task with its end at a beat up to it."""
    return task[:3] + (beat,)


def places_of(task):
    """The (room, beat) of a task that has been checked, in their order."""
    house, _, now, end = task
    return tuple([(room, beat) for beat in range(now, end + 1)
                  for room in range(len(house[0])) if is_place(house, room, beat)])


def numbers_of(task):
    """The numbers of the places of a checked task, by (room, beat)."""
    return {place: number for number, place in enumerate(places_of(task))}


def stands_at(house, numbers, beat):
    """The arcs of those who stand on at a beat, by room."""
    arcs = []
    for room, kind in enumerate(house[0]):
        tail = numbers.get((room, beat), None)
        head = numbers.get((room, beat + 1), None)
        if kind == 0 and tail is not None and head is not None:
            arcs.append(("stand", room, beat, tail, head, None))
    return arcs


def goes_at(house, numbers, beat):
    """The arcs of those who enter a passage at a beat, by passage."""
    arcs = []
    for passage, (start, goal, length, width, shut) in enumerate(house[1]):
        tail = numbers.get((start, beat), None)
        head = numbers.get((goal, beat + length), None)
        if width > 0 and beat not in shut and tail is not None and head is not None:
            arcs.append(("go", passage, beat, tail, head, width))
    return arcs


def steps_of(task):
    """The arcs of a checked task, in their order."""
    house, _, now, end = task
    numbers = numbers_of(task)
    arcs = []
    for beat in range(now, end + 1):
        arcs.extend(stands_at(house, numbers, beat))
        arcs.extend(goes_at(house, numbers, beat))
    return tuple(arcs)


def starts_of(task):
    """By person of a checked task the number of the place where they begin, or None."""
    numbers = numbers_of(task)
    return tuple([numbers.get((room, beat), None) for room, beat, _ in task[1]])


def doors_of(task):
    """By beat the numbers of the places in ways out of a checked task."""
    house, _, now, end = task
    numbers = numbers_of(task)
    return tuple([tuple([numbers[(room, beat)] for room, kind in enumerate(house[0]) if kind == 1])
                  for beat in range(now, end + 1)])


def nodes_of(task):
    """(room, beat), of all beats from now to the end and all rooms without smoke then."""
    return places_of(check_task(task))


def arcs_of(task):
    """By beat those who stand on, by room, then those who enter a passage, by passage."""
    return steps_of(check_task(task))


def begins(task):
    """By person the number of the place where they begin, None if it is none."""
    return starts_of(check_task(task))


def goals(task):
    """By beat, from now to the end, the ascending numbers of its places in ways out."""
    return doors_of(check_task(task))


def going_on(task, flow):
    """By place how many more go out of it than come in by a flow."""
    more = [0] * len(places_of(task))
    for (_, _, _, tail, head, _), many in zip(steps_of(task), flow):
        more[tail] += many
        more[head] -= many
    return more


def beginning(task):
    """By place how many people begin there."""
    many = [0] * len(places_of(task))
    for place in starts_of(task):
        if place is not None:
            many[place] += 1
    return many


def is_led(task, value):
    """Whether any value tells by arc a number, not more than its most."""
    arcs = steps_of(task)
    if not is_row_of(value, len(arcs)):
        return False
    return all([is_number(many) and (arc[5] is None or many <= arc[5]) for arc, many in zip(arcs, value)])


def is_flow_of(task, value):
    """Whether any value is a flow of a checked task."""
    if not is_led(task, value):
        return False
    rooms = task[0][0]
    return all([rooms[room] == 1 or 0 <= more <= many
                for (room, _), more, many in zip(places_of(task), going_on(task, value), beginning(task))])


def flow_holds(task, value):
    """Whether any value is a flow of the task."""
    return is_flow_of(check_task(task), value)


def need_flow_of(task, value):
    """Any value that is a flow of a checked task, as a tuple; Refused for any other one."""
    if not is_flow_of(task, value):
        raise Refused(value)
    return tuple(value)


def out_by_flow(task, flow):
    """By beat how many are out by a flow, with those who begin in ways out."""
    more = going_on(task, flow)
    here = beginning(task)
    rows = []
    many = 0
    for doors in doors_of(task):
        many += sum([here[door] - more[door] for door in doors])
        rows.append(many)
    return tuple(rows)


def flow_out(task, flow):
    """By beat how many are out by the flow, those who begin in ways out, too."""
    task = check_task(task)
    return out_by_flow(task, need_flow_of(task, flow))
