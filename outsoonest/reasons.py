"""Reasons: why somebody is out or not, who would have to yield, and which widths tell."""

from outsoonest.cuts import is_cut, least_cut, lets, need_cut, need_till, outside_of, passed_by
from outsoonest.errors import Refused
from outsoonest.houses import comings, ways_out
from outsoonest.lots import need_out
from outsoonest.people import need_person
from outsoonest.runs import need_run, outs_of
from outsoonest.soonest import led_till, most_till
from outsoonest.unrolled import check_task, ending, need_beat_of, of_lot, steps_of
from outsoonest.words import is_ascending, is_number, is_row_of


def first_alone(task, person):
    """By room the first beat at which a person of a checked task could be there alone by its end; None for never."""
    house, people, _, end = task
    room, beat, _ = people[person]
    first, _ = comings(house, room, beat, end)
    return first


def out_alone(task, person):
    """The first beat, up to the end of a checked task, at which a person could be out alone; None for never."""
    first = first_alone(task, person)
    return min([first[door] for door in ways_out(task[0]) if first[door] is not None], default=None)


def cut_alone(task, person):
    """By room the first beat at which a person could be there alone, None for never, and for ways out."""
    return tuple([None if kind == 1 else first for kind, first in zip(task[0][0], first_alone(task, person))])


def alone(task, person):
    """The first beat at which a person could be out, were nobody else there; None if not by the end."""
    task = check_task(task)
    return out_alone(task, need_person(task[1], person))


def alone_cut(task, person):
    """By room the first beat at which a person could be there alone; None where never by the end, and for ways out."""
    task = check_task(task)
    return cut_alone(task, need_person(task[1], person))


def need_asked(task, run, person, beat):
    """What is asked why: the task, as tuples, that ends at the beat, and by person when they are out by then."""
    task = check_task(task)
    told = need_run(task, run)
    need_person(task[1], person)
    need_beat_of(task, beat)
    part = ending(task, beat)
    since = tuple([when if when is not None and when <= beat else None for when in outs_of(task, told)])
    if len(out_of(since)) < most_till(part, beat):
        raise Refused(run)
    return part, since


def out_of(since):
    """Ascending the persons who are out, told by when they are."""
    return tuple([person for person, when in enumerate(since) if when is not None])


def why(task, run, person, beat):
    """Why a person is out by a beat by a best run, could never be, or others are instead."""
    task, since = need_asked(task, run, person, beat)
    if since[person] is not None:
        return "out", since[person]
    if out_alone(task, person) is None:
        return "never", cut_alone(task, person)
    return "instead", out_of(since), least_cut(task)


def is_never(task, person, value):
    """Whether any value is ("never", cut): a cut that lets nobody out, were the person there alone."""
    return (is_row_of(value, 2) and value[0] == "never" and is_cut(task, value[1])
            and lets(of_lot(task, (person,)), value[1]) == 0)


def is_instead(task, others, value):
    """Whether any value is ("instead", others, cut): a cut that lets just as many out as these are."""
    if not is_row_of(value, 3) or value[0] != "instead" or not is_ascending(value[1], len(task[1])):
        return False
    return tuple(value[1]) == others and is_cut(task, value[2]) and lets(task, value[2]) == len(others)


def why_holds(task, run, person, beat, value):
    """Whether any value is such an answer as `why` gives."""
    task, since = need_asked(task, run, person, beat)
    if since[person] is not None:
        return is_row_of(value, 2) and value[0] == "out" and is_number(value[1]) and value[1] == since[person]
    if out_alone(task, person) is None:
        return is_never(task, person, value)
    return is_instead(task, out_of(since), value)


def told_cut(task, beat, cut):
    """What a cut lets out, in words: who begins outside of it, and how many enter what when."""
    task = need_till(task, beat)
    cut = need_cut(task, cut)
    persons = outside_of(task, cut)
    rows = [("begin", persons)] if persons else []
    return tuple(rows + [("enter", passage, when, many) for passage, when, many in passed_by(task, cut)])


def yielding(task, beat, lot, person):
    """Those of a lot in whose place a person could be out by the beat, all others of the lot too."""
    task = need_till(task, beat)
    lot, linking = need_out(task, lot)
    need_person(task[1], person)
    if person in lot:
        raise Refused(person)
    met = linking.met_from(linking.persons[person])
    # From where there is room beside the lot walks lead back to all of it.
    return tuple([other for other in lot if met[linking.persons[other]]])


def full_goes(task, residue):
    """(passage, beat of entering, tail, head), ascending, of the entries of a checked task that are full."""
    rows = [(name, beat, tail, head) for number, (kind, name, beat, tail, head, _) in enumerate(steps_of(task))
            if kind == "go" and residue.left[2 * number] == 0]
    return sorted(rows)


def wider(task, beat):
    """The (passage, beat of entering) at which a width one greater would let one more be out by the beat."""
    task = need_till(task, beat)
    residue, start, last = led_till(task, beat)
    met = residue.met_from(start)
    level = residue.levels(last, None)
    return tuple([(passage, when) for passage, when, tail, head in full_goes(task, residue)
                  if met[tail] and level[head] >= 0])


def narrower(task, beat):
    """The (passage, beat of entering) at which a width one less would leave one more behind by the beat."""
    task = need_till(task, beat)
    residue, _, _ = led_till(task, beat)
    # What is led elsewhere instead comes from the tail to the head by other arcs.
    return tuple([(passage, when) for passage, when, tail, head in full_goes(task, residue)
                  if not residue.met_from(tail)[head]])
