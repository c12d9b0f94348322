"""Cuts: by room the beat from which on people are held, and how many they let out."""

from outsoonest.errors import Refused
from outsoonest.houses import is_smoke
from outsoonest.people import need_person
from outsoonest.runs import out_numbers, run_or_none
from outsoonest.soonest import led_till, most_till
from outsoonest.unrolled import check_task, ending, need_beat_of, places_of, starts_of, steps_of


def is_cut(task, value):
    """Whether any value is a cut of a checked task."""
    # A cut tells by room what smoke tells: a beat or None, and None for ways out.
    return is_smoke(task[0][0], value)


def need_cut(task, value):
    """Any value that is a cut of a checked task, as a tuple; Refused for any other one."""
    if not is_cut(task, value):
        raise Refused(value)
    return tuple(value)


def holds(cut, room, beat):
    """Whether a cut holds a room at a beat."""
    since = cut[room]
    return since is not None and since <= beat


def is_held(task, cut, person):
    """Whether a cut holds the own room of a person at the own beat, in smoke or not."""
    task = check_task(task)
    cut = need_cut(task, cut)
    room, beat, _ = task[1][need_person(task[1], person)]
    return holds(cut, room, beat)


def held_nodes(task, cut):
    """The ascending numbers of the places that a cut holds."""
    task = check_task(task)
    cut = need_cut(task, cut)
    return tuple([number for number, (room, beat) in enumerate(places_of(task)) if holds(cut, room, beat)])


def outside_of(task, cut):
    """Ascending, who begins by the end of a checked task at a place that a cut does not hold."""
    return tuple([person for person, place in enumerate(starts_of(task))
                  if place is not None and not holds(cut, task[1][person][0], task[1][person][1])])


def passed_by(task, cut):
    """(passage, entered, width) of a checked task's entries from a place that is held to one that is not."""
    passages = task[0][1]
    rows = []
    for kind, name, beat, _, _, most in steps_of(task):
        if kind == "go":
            tail, head, length, _, _ = passages[name]
            if holds(cut, tail, beat) and not holds(cut, head, beat + length):
                rows.append((name, beat, most))
    return tuple(rows)


def lets(task, cut):
    """How many a cut lets out by the end of a checked task."""
    return len(outside_of(task, cut)) + sum([width for _, _, width in passed_by(task, cut)])


def need_till(task, beat):
    """Any task and a beat of it: the task, as tuples, that ends at this beat."""
    task = check_task(task)
    need_beat_of(task, beat)
    return ending(task, beat)


def begin_outside(task, beat, cut):
    """Ascending, who begins, up to the beat, at a place that the cut does not hold."""
    task = need_till(task, beat)
    return outside_of(task, need_cut(task, cut))


def passed(task, beat, cut):
    """(passage, entered, width), up to the beat, of entries from a place that is held to one that is not."""
    task = need_till(task, beat)
    return passed_by(task, need_cut(task, cut))


def cut_lets(task, beat, cut):
    """How many begin outside of the cut, and the widths by which it is passed, together."""
    task = need_till(task, beat)
    return lets(task, need_cut(task, cut))


def meets_by(task, beat, run, cut):
    """Whether any values are a run of a checked task that holds and a cut that lets out just those out by a beat."""
    run = run_or_none(task, run)
    if run is None or not is_cut(task, cut):
        return False
    return out_numbers(task, run)[beat - task[2]] == lets(ending(task, beat), cut)


def meets(task, beat, run, cut):
    """Whether any values are a run that holds and a cut that lets out just those who are out by the beat."""
    task = check_task(task)
    need_beat_of(task, beat)
    return meets_by(task, beat, run, cut)


def cut_holds(task, beat, value):
    """Whether any value is a cut that lets out just as many as can be out by the beat."""
    task = need_till(task, beat)
    return is_cut(task, value) and lets(task, value) == most_till(task, beat)


def cut_of(task, within):
    """By room the first beat of a checked task's places that are within, None for none.

    `within` tells by node, the places first, whether it is.
    """
    first = [None] * len(task[0][0])
    for (room, beat), is_held_there in zip(places_of(task), within):
        if is_held_there and first[room] is None:
            first[room] = beat
    return tuple(first)


def least_cut(task):
    """By room the first beat of the places that all cuts hold which let out as few of a checked task as can be."""
    residue, start, _ = led_till(task, task[3])
    return cut_of(task, residue.met_from(start))


def cut_at(task, beat):
    """By room the first beat of the places that all cuts hold which let out as few as can be."""
    return least_cut(need_till(task, beat))


def cut_wide(task, beat):
    """By room the first beat of the places that any cut holds which lets out as few as can be."""
    task = need_till(task, beat)
    residue, _, last = led_till(task, beat)
    return cut_of(task, [level < 0 for level in residue.levels(last, None)])


def need_two(task, cut, other):
    """The two cuts, room by room, where the first argument is a task."""
    task = check_task(task)
    return list(zip(need_cut(task, cut), need_cut(task, other)))


def both_held(task, cut, other):
    """By room the later one of two beats, None if one is None."""
    return tuple([None if None in pair else max(pair) for pair in need_two(task, cut, other)])


def either_held(task, cut, other):
    """By room the earlier one of two beats, None if both are."""
    return tuple([min([beat for beat in pair if beat is not None], default=None)
                  for pair in need_two(task, cut, other)])


def lies_within(task, beat, cut, other):
    """Whether all places up to the beat that the first cut holds are held by the other one, too."""
    task = need_till(task, beat)
    cut = need_cut(task, cut)
    other = need_cut(task, other)
    return all([holds(other, room, when) for room, when in places_of(task) if holds(cut, room, when)])
