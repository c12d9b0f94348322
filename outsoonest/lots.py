"""Lots that can be out by a beat, the first of them, and why somebody is not of it."""

from outsoonest.cuts import cut_of, holds, is_cut, lets, need_till
from outsoonest.errors import Refused
from outsoonest.linking import first_of, led_first, led_none
from outsoonest.people import in_order, is_lot_of
from outsoonest.soonest import most_till
from outsoonest.unrolled import need_lot_of, of_lot, starts_of
from outsoonest.words import is_row_of


def most_out(task, beat):
    """How many can be out by a beat at most."""
    return most_till(need_till(task, beat), beat)


def led_lot(task, lot):
    """A checked task's net by which those of a lot are led out who can be, the lesser number first."""
    linking = led_none(task)
    for person in lot:
        linking.lead(person)
    return linking


def can_all(linking, lot):
    """Whether all of a lot are led out."""
    return all([linking.is_led(person) for person in lot])


def can_be_out(task, beat, lot):
    """Whether some run has all of a lot out by the beat."""
    task = need_till(task, beat)
    lot = need_lot_of(task, lot)
    return can_all(led_lot(task, lot), lot)


def first_out(task, beat):
    """The first lot that can be out by the beat."""
    return first_of(need_till(task, beat))


def need_out(task, value):
    """Any value that is a lot of a checked task that can be out, as a tuple, and the net that leads it."""
    lot = need_lot_of(task, value)
    linking = led_lot(task, lot)
    if not can_all(linking, lot):
        raise Refused(value)
    return lot, linking


def added(task, beat, lot, other):
    """The least person of the other, greater lot with whom the first one still can be out."""
    task = need_till(task, beat)
    lot, linking = need_out(task, lot)
    more, _ = need_out(task, other)
    if len(more) <= len(lot):
        raise Refused(other)
    rest = [person for person in more if person not in lot]
    at = 0
    # One of them can always be led out besides: their lot has more persons.
    while not linking.lead(rest[at]):
        at += 1
    return rest[at]


def crowd_left(task, linking, person):
    """The paper of somebody who cannot be led out beside those who are."""
    # Nothing is spared on what leads out of where the person can still be led:
    # of those who begin there, as many are out as that bears.
    met = linking.met_from(linking.persons[person])
    starts = starts_of(task)
    persons = [other for other, start in enumerate(starts)
               if other == person or linking.is_led(other) and met[start]]
    return "crowd", tuple(persons), cut_of(task, met)


def papers_of(task):
    """(person, paper) for all who are not of the first lot of a checked task by its end, in the order."""
    linking = led_first(task)
    starts = starts_of(task)
    rows = []
    for person in in_order(task[1]):
        if starts[person] is None:
            rows.append((person, ("nowhere",)))
        elif not linking.is_led(person):
            rows.append((person, crowd_left(task, linking, person)))
    return tuple(rows)


def left_papers(task, beat):
    """(person, paper) for all who are not of the first lot, in the order."""
    return papers_of(need_till(task, beat))


def is_crowd_paper(task, value):
    """Whether any value is ("crowd", persons, cut) that holds by the end of a checked task."""
    if not is_row_of(value, 3) or value[0] != "crowd" or not is_lot_of(task[1], value[1]) or not is_cut(task, value[2]):
        return False
    part = of_lot(task, value[1])
    return (all([holds(value[2], room, beat) for room, beat, _ in part[1]])
            and lets(part, value[2]) < len(part[1]))


def crowd_holds(task, beat, value):
    """Whether any value is ("crowd", persons, cut): a cut that holds them all and lets out fewer by the beat."""
    return is_crowd_paper(need_till(task, beat), value)
