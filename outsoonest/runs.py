"""Runs of a task: whether they hold, where they have everybody, and their flows."""

from outsoonest.errors import Refused
from outsoonest.houses import is_place
from outsoonest.people import in_order, need_person
from outsoonest.unrolled import check_task, need_flow_of, places_of, starts_of, steps_of
from outsoonest.words import is_row_of, is_sequence, is_within


def is_entries(task, value):
    """Whether any value is a sequence of (passage, beat), beats from now to the end."""
    house, _, now, end = task
    if not is_sequence(value):
        return False
    last = len(house[1]) - 1
    return all([is_row_of(entry, 2) and is_within(entry[0], 0, last) and is_within(entry[1], now, end)
                for entry in value])


def need_run_form(task, value):
    """Any value of the form of a run of a checked task, as tuples; Refused for any other one."""
    if not is_row_of(value, len(task[1])) or not all([is_entries(task, row) for row in value]):
        raise Refused(value)
    return tuple([tuple([tuple(entry) for entry in row]) for row in value])


def check_run(task, value):
    """Any value of the form of a run, holding or not, as tuples; Refused for any other one."""
    return need_run_form(check_task(task), value)


def first_fault(house, person, row):
    """The index of the first entry that cannot be, None if all can."""
    room, since, _ = person
    for index, (passage, beat) in enumerate(row):
        tail, head, length, _, shut = house[1][passage]
        if tail != room or beat < since or beat in shut or not is_place(house, room, beat):
            return index
        room = head
        since = beat + length
    return None


def entered(run):
    """How many enter a passage at a beat, by (passage, beat)."""
    many = {}
    for row in run:
        for entry in row:
            many[entry] = many.get(entry, 0) + 1
    return many


def faults_of(task, run):
    """What does not hold of a run that has its form."""
    house, people, _, _ = task
    faults = []
    for number, person in enumerate(people):
        index = first_fault(house, person, run[number])
        if index is not None:
            faults.append(("entry", number, index))
    many = entered(run)
    for passage, beat in sorted(many):
        if many[(passage, beat)] > house[1][passage][3]:
            faults.append(("width", passage, beat))
    return tuple(faults)


def run_faults(task, run):
    """By person the first entry that cannot be, then the passages entered by too many."""
    task = check_task(task)
    return faults_of(task, need_run_form(task, run))


def need_run(task, value):
    """Any value that is a run of a checked task that holds, as tuples; Refused for any other one."""
    run = need_run_form(task, value)
    if faults_of(task, run):
        raise Refused(value)
    return run


def run_or_none(task, value):
    """Any value that is a run of a checked task that holds, as tuples; None for any other one."""
    try:
        return need_run(task, value)
    except Refused:
        return None


def run_holds(task, value):
    """Whether any value is a run that holds."""
    return run_or_none(check_task(task), value) is not None


def last_stay(house, person, row):
    """The room to which the last entry comes, and the beat of coming there."""
    room, since, _ = person
    for passage, beat in row:
        room = house[1][passage][1]
        since = beat + house[1][passage][2]
    return room, since


def lost_since(house, room, since):
    """The beat from which on somebody who stays in a room is lost, None if they are not."""
    smoke = house[2][room]
    return None if smoke is None else max(smoke, since)


def place_at(house, person, row, beat):
    """Where a person is at a beat by their entries."""
    stay = row
    for index, (passage, when) in enumerate(row):
        if when < beat < when + house[1][passage][2]:
            return "within", passage, when + house[1][passage][2]
        if beat <= when:
            stay = row[:index]
            break
    room, since = last_stay(house, person, stay)
    if beat < since:
        return "within", None, since
    if house[0][room] == 1:
        return "out", room
    lost = lost_since(house, room, since)
    return ("room", room) if lost is None or beat < lost else ("lost", lost)


def where(task, run, person, beat):
    """Where the run has a person at a beat."""
    task = check_task(task)
    run = need_run(task, run)
    house, people, now, end = task
    need_person(people, person)
    if not is_within(beat, now, end):
        raise Refused(beat)
    return place_at(house, people[person], run[person], beat)


def outs_of(task, run):
    """By person the beat from which they are out by a run that holds, None if not by the end."""
    house, people, _, end = task
    stays = [last_stay(house, person, row) for person, row in zip(people, run)]
    return tuple([since if house[0][room] == 1 and since <= end else None for room, since in stays])


def outs(task, run):
    """By person the beat from which they are out, None if not by the end."""
    task = check_task(task)
    return outs_of(task, need_run(task, run))


def out_numbers(task, run):
    """By beat how many are out by a run that holds."""
    since = outs_of(task, run)
    return tuple([len([when for when in since if when is not None and when <= beat])
                  for beat in range(task[2], task[3] + 1)])


def out_by(task, run):
    """By beat, from now to the end, how many are out."""
    task = check_task(task)
    return out_numbers(task, need_run(task, run))


def lost_of(task, run):
    """Ascending, who is lost by the end."""
    task = check_task(task)
    run = need_run(task, run)
    house, people, _, end = task
    stays = [last_stay(house, person, row) for person, row in zip(people, run)]
    since = [lost_since(house, room, beat) for room, beat in stays]
    return tuple([person for person, beat in enumerate(since) if beat is not None and beat <= end])


def arcs_taken(house, person, row):
    """The arcs, by (kind, room or passage, beat), that somebody takes who gets out."""
    room, since, _ = person
    taken = []
    for passage, beat in row:
        taken.extend([("stand", room, when) for when in range(since, beat)])
        taken.append(("go", passage, beat))
        room = house[1][passage][1]
        since = beat + house[1][passage][2]
    return taken


def flow_of_run(task, run):
    """The flow of a run that holds."""
    numbers = {arc[:3]: number for number, arc in enumerate(steps_of(task))}
    flow = [0] * len(numbers)
    for person, row, since in zip(task[1], run, outs_of(task, run)):
        if since is not None:
            for arc in arcs_taken(task[0], person, row):
                flow[numbers[arc]] += 1
    return tuple(flow)


def run_flow(task, run):
    """The flow of a run: by arc how many of those who get out by the end take it."""
    task = check_task(task)
    return flow_of_run(task, need_run(task, run))


def flow_run(task, flow):
    """Some run whose flow it is, in which nobody else enters a passage."""
    task = check_task(task)
    return run_of(task, need_flow_of(task, flow))


def dealt(arcs, load, waiting, rows):
    """Some run by which those who wait, by place, go on by the load of these arcs.

    `rows` has by person what they entered ahead of it; both lists change.
    """
    for (kind, name, beat, tail, head, _), many in zip(arcs, load):
        for _ in range(many):
            person = waiting[tail].pop()
            waiting[head].append(person)
            if kind == "go":
                rows[person].append((name, beat))
    return tuple([tuple(row) for row in rows])


def run_of(task, flow):
    """A run of a flow; of those who begin at one place the first by the order go."""
    waiting = [[] for _ in places_of(task)]
    starts = starts_of(task)
    # Behind one another, so that those who are first by the order are taken off first.
    for person in reversed(in_order(task[1])):
        if starts[person] is not None:
            waiting[starts[person]].append(person)
    return dealt(steps_of(task), flow, waiting, [[] for _ in task[1]])
