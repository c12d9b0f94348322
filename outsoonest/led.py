"""Led on: what a run leaves a beat later, what can be kept of rows of entries, and best again from there."""

from outsoonest.errors import Refused
from outsoonest.houses import is_beat
from outsoonest.linking import Linking, led_people
from outsoonest.people import in_order
from outsoonest.runs import first_fault, flow_of_run, need_run, need_run_form, run_of
from outsoonest.unrolled import check_task, need_flow_of


def person_behind(house, person, row, now):
    """Where a person is one beat later by their entries."""
    room, beat, urgency = person
    if beat > now:
        return person
    if row and row[0][1] == now:
        _, head, length, _, _ = house[1][row[0][0]]
        return head, now + length, urgency
    return room, now + 1, urgency


def behind(task, run):
    """The task one beat later, and the run that is left."""
    task = check_task(task)
    house, people, now, end = task
    kept = need_run(task, run)
    if now == end:
        raise Refused(run)
    later = tuple([person_behind(house, person, row, now) for person, row in zip(people, kept)])
    if not all([is_beat(beat) for _, beat, _ in later]):
        raise Refused(run)
    rest = tuple([tuple([entry for entry in row if entry[1] > now]) for row in kept])
    return (house, later, now + 1, end), rest


def kept_row(house, person, row, many):
    """The longest beginning of entries that can be and that finds room beside those ahead.

    `many` has by (passage, beat) how many of those ahead enter; the kept ones are told there, too.
    """
    fault = first_fault(house, person, row)
    kept = []
    for entry in row[:fault]:
        if many.get(entry, 0) >= house[1][entry[0]][3]:
            break
        many[entry] = many.get(entry, 0) + 1
        kept.append(entry)
    return tuple(kept)


def kept_of(task, run):
    """By person of a checked task what can be kept of the entries of a run, who are first by the order first."""
    house, people, _, _ = task
    many = {}
    rows = [()] * len(people)
    for person in in_order(people):
        rows[person] = kept_row(house, people[person], run[person], many)
    return tuple(rows)


def kept_run(task, run):
    """By person, by the order, the longest beginning of the entries that can be beside those ahead."""
    task = check_task(task)
    return kept_of(task, need_run_form(task, run))


def lead_all(linking, starts):
    """Leads on from some nodes, one after another, to the slots that are let, as long as one can be."""
    level = linking.levels(linking.last, None)
    for node in starts:
        # Whence no walk leads now, none does behind walks from elsewhere.
        if level[node] >= 0:
            linking.go_all(node, linking.last)


def best_from(task, flow):
    """Some flow of a checked task that is best at every beat, led on from one."""
    linking = Linking(task, flow, led_people(task, flow))
    for at in range(len(linking.slots)):
        linking.let(at)
        lead_all(linking, linking.slots[at + 1:])
        # From those who are out already no walk leads.
        lead_all(linking, linking.persons)
    return linking.flow()


def led_best(task, flow):
    """Some flow by which at every beat as many are out as can be, led on from the told one by walks."""
    task = check_task(task)
    return best_from(task, need_flow_of(task, flow))


def led_run(task, run):
    """A run of a flow that is best at every beat, led on from what can be kept of any rows of entries."""
    task = check_task(task)
    kept = kept_of(task, need_run_form(task, run))
    return run_of(task, best_from(task, flow_of_run(task, kept)))
