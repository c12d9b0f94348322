"""Ways: who enters what of a run's entries, first come or by urgency, and the plan."""

from outsoonest.errors import Refused
from outsoonest.joined import best_of
from outsoonest.linking import first_of, led_people
from outsoonest.people import in_order, is_lot_of, need_person
from outsoonest.runs import arcs_taken, flow_of_run, need_run, out_numbers, outs_of, place_at, run_or_none
from outsoonest.soonest import soonest_of
from outsoonest.unrolled import check_task, need_flow_of, places_of, starts_of, steps_of
from outsoonest.words import is_row_of, is_within


def ahead_of(row, beat):
    """The entries ahead of a beat."""
    return tuple([entry for entry in row if entry[1] < beat])


def from_on(row, beat):
    """The entries from a beat on."""
    return tuple([entry for entry in row if entry[1] >= beat])


def exchanged(task, run, one, other, beat):
    """The run by which two who are in one room at the beat go on as the other one did."""
    task = check_task(task)
    run = need_run(task, run)
    house, people, now, end = task
    need_person(people, one)
    need_person(people, other)
    if not is_within(beat, now, end):
        raise Refused(beat)
    place = place_at(house, people[one], run[one], beat)
    if place[0] != "room" or place != place_at(house, people[other], run[other], beat):
        raise Refused(beat)
    rows = list(run)
    rows[one] = ahead_of(run[one], beat) + from_on(run[other], beat)
    rows[other] = ahead_of(run[other], beat) + from_on(run[one], beat)
    return tuple(rows)


def getting_out(task, run):
    """Ascending, who is out by the end by a run that holds."""
    return tuple([person for person, since in enumerate(outs_of(task, run)) if since is not None])


def order_ranks(task):
    """By person which place they have in the order."""
    ranks = [0] * len(task[1])
    for rank, person in enumerate(in_order(task[1])):
        ranks[person] = rank
    return ranks


def dealt_anew(task, people, entries):
    """By person, of these, the entries they have if who came to a room first leaves it first.

    The entries are ascending by beat, then by passage.
    """
    house = task[0]
    ranks = order_ranks(task)
    waiting = [[] for _ in house[0]]
    for person in people:
        room, since, _ = task[1][person]
        waiting[room].append((since, ranks[person], person))
    rows = {person: [] for person in people}
    for beat, passage in entries:
        tail, head, length, _, _ = house[1][passage]
        first = min(waiting[tail])
        waiting[tail].remove(first)
        _, rank, person = first
        waiting[head].append((beat + length, rank, person))
        rows[person].append((passage, beat))
    return rows


def queued(task, run):
    """The run of the same entries in which, of those who get out, who came first goes first."""
    task = check_task(task)
    run = need_run(task, run)
    people = getting_out(task, run)
    entries = sorted([(beat, passage) for person in people for passage, beat in run[person]])
    rows = dealt_anew(task, people, entries)
    return tuple([tuple(rows[person]) if person in rows else row for person, row in enumerate(run)])


def stands_of(task, run):
    """By room (came, rank by the order, left) of each time one of those who get out leaves it."""
    house, people, _, _ = task
    ranks = order_ranks(task)
    stands = [[] for _ in house[0]]
    for person in getting_out(task, run):
        room, since, _ = people[person]
        for passage, beat in run[person]:
            stands[room].append((since, ranks[person], beat))
            room = house[1][passage][1]
            since = beat + house[1][passage][2]
    return stands


def is_queued(task, run):
    """Whether of those who get out nobody leaves a room ahead of one who came first, or alike and is ahead."""
    task = check_task(task)
    for stands in stands_of(task, need_run(task, run)):
        left = [beat for _, _, beat in sorted(stands)]
        if left != sorted(left):
            return False
    return True


def longest_stands(task, run):
    """By room how many beats one of those who get out stands there at most; None if none of them leaves it."""
    task = check_task(task)
    return tuple([max([beat - since for since, _, beat in stands], default=None)
                  for stands in stands_of(task, need_run(task, run))])


class Ways:
    """A flow of a checked task from which ways out are taken off, one after another."""

    def __init__(self, task, flow):
        self.house = task[0]
        self.places = places_of(task)
        self.starts = starts_of(task)
        self.arcs = steps_of(task)
        self.numbers = {arc[:3]: number for number, arc in enumerate(self.arcs)}
        self.rest = list(flow)

    def is_out(self, place):
        """Whether a place is in a way out."""
        return self.house[0][self.places[place][0]] == 1

    def came_by(self, start):
        """By place to which the rest of the flow leads from one, some arc by which; None for that one."""
        came = {start: None}
        # No arc leads back in time, so they are met in an order in which each can be gone on from.
        for number, (_, _, _, tail, head, _) in enumerate(self.arcs):
            if self.rest[number] > 0 and tail in came:
                came[head] = number
        return came

    def soonest(self, person):
        """The entries of a soonest way out of a person in the rest of the flow, and the beat of being out."""
        came = self.came_by(self.starts[person])
        # Places are numbered by beat first.
        place = min([place for place in came if self.is_out(place)])
        beat = self.places[place][1]
        row = []
        while came[place] is not None:
            kind, name, when, tail, _, _ = self.arcs[came[place]]
            if kind == "go":
                row.append((name, when))
            place = tail
        row.reverse()
        return tuple(row), beat

    def take_off(self, person, row):
        """Takes the way of a person off the flow, who is told by (room, beat, urgency)."""
        for arc in arcs_taken(self.house, person, row):
            self.rest[self.numbers[arc]] -= 1


def by_urgency(task, flow):
    """Some run of a flow of a checked task in which, by the order, each is out as soon as can be in what is left."""
    people = led_people(task, flow)
    rest = Ways(task, flow)
    rows = [()] * len(task[1])
    for person in in_order(task[1]):
        if person in people:
            rows[person], _ = rest.soonest(person)
            rest.take_off(task[1][person], rows[person])
    return tuple(rows)


def ways(task, flow):
    """Some run of the flow in which, by the order, each is out as soon as those ahead have left of it."""
    task = check_task(task)
    return by_urgency(task, need_flow_of(task, flow))


def is_by_urgency(task, flow, run):
    """Whether in a run of a flow, by the order, each is out as soon as can be in what is left."""
    rest = Ways(task, flow)
    since = outs_of(task, run)
    for person in in_order(task[1]):
        if since[person] is not None:
            if since[person] != rest.soonest(person)[1]:
                return False
            rest.take_off(task[1][person], run[person])
    return True


def ways_hold(task, flow, value):
    """Whether any value is a run such as `ways` tells."""
    task = check_task(task)
    flow = need_flow_of(task, flow)
    run = run_or_none(task, value)
    if run is None or flow_of_run(task, run) != flow:
        return False
    people = getting_out(task, run)
    if people != led_people(task, flow) or [row for person, row in enumerate(run) if row and person not in people]:
        return False
    return is_by_urgency(task, flow, run)


def plan(task):
    """The first lot, and the ways of some flow of just it that is best at every beat."""
    task = check_task(task)
    lot = first_of(task)
    # Of those who begin at one place the first by the order are in the first lot, so these ways lead just it out.
    return lot, by_urgency(task, best_of(task, lot))


def is_plan(task, lot, value):
    """Whether any value is a run by which just a lot is out by the end, and at every beat as many as can be."""
    run = run_or_none(task, value)
    return run is not None and getting_out(task, run) == lot and out_numbers(task, run) == soonest_of(task)


def plan_holds(task, value):
    """Whether any value is the first lot, and a run by which just it is out, best at every beat."""
    task = check_task(task)
    if not is_row_of(value, 2) or not is_lot_of(task[1], value[0]):
        return False
    lot = first_of(task)
    return tuple(value[0]) == lot and is_plan(task, lot, value[1])
