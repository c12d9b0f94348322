"""Drills: a run that was done is looked back on, and what was lost at which beat."""

from outsoonest.cuts import cut_of, meets_by
from outsoonest.errors import NoBeat
from outsoonest.runs import last_stay, need_run, out_numbers, run_of
from outsoonest.soonest import led_till, most_till, soonest_of
from outsoonest.unrolled import check_task, ending, need_beat_of, steps_of
from outsoonest.words import is_row_of


def person_at(house, person, row, beat):
    """Where a person is at a beat by their entries, from this beat on; where and when they come, if that is later."""
    room, since = last_stay(house, person, [entry for entry in row if entry[1] < beat])
    return room, max(since, beat), person[2]


def rest_at(task, run, beat):
    """The checked task from a beat on, by a run that holds."""
    house, people, _, end = task
    return house, tuple([person_at(house, person, row, beat) for person, row in zip(people, run)]), beat, end


def need_drill(task, run, beat):
    """The task and the run, as tuples, where the other is a beat of it."""
    task = check_task(task)
    run = need_run(task, run)
    need_beat_of(task, beat)
    return task, run


def task_at(task, run, beat):
    """The task from this beat on, everybody as the run has them then."""
    task, run = need_drill(task, run, beat)
    return rest_at(task, run, beat)


def most_still(task, run, beat, till):
    """How many can be out by a later beat at most from where the run has everybody."""
    task, run = need_drill(task, run, beat)
    need_beat_of(task, till)
    if till < beat:
        raise NoBeat(till)
    return most_till(rest_at(task, run, beat), till)


def falls_by(numbers):
    """How many fewer each of some numbers is than the one ahead."""
    return tuple([numbers[at] - numbers[at + 1] for at in range(len(numbers) - 1)])


def falls_of(task, run, last):
    """By beat from now on, ahead of a last one, how many fewer can be out by it behind the beat's steps."""
    return falls_by([most_till(rest_at(task, run, beat), last) for beat in range(task[2], last + 1)])


def beat_falls(task, run, till):
    """For each beat from now on, ahead of `till`: how many fewer can still be out by it behind this beat's steps."""
    task, run = need_drill(task, run, till)
    return falls_of(task, run, till)


def first_fall(task, run, till):
    """The first beat at which any are lost of those who could be out by `till`; None if there is none."""
    task, run = need_drill(task, run, till)
    fallen = [task[2] + at for at, many in enumerate(falls_of(task, run, till)) if many > 0]
    return fallen[0] if fallen else None


def lost_in_all(task, run, till):
    """How many fewer are out by `till` than could have been from now on."""
    task, run = need_drill(task, run, till)
    return most_till(task, till) - out_numbers(task, run)[till - task[2]]


def fall_table(task, run):
    """What beat_falls tells by `till`, from now to the end."""
    task = check_task(task)
    run = need_run(task, run)
    now, end = task[2], task[3]
    # By beat from which on, by beat up to which: how many can be out.
    rows = [soonest_of(rest_at(task, run, beat)) for beat in range(now, end + 1)]
    return tuple([falls_by([rows[at][last - at] for at in range(last + 1)]) for last in range(end - now + 1)])


def is_soonest(task, run):
    """Whether by each beat as many are out as can be."""
    task = check_task(task)
    run = need_run(task, run)
    return out_numbers(task, run) == soonest_of(task)


def paper_of_rest(task, last):
    """A cut and a run of a checked task that meet at a beat."""
    residue, start, _ = led_till(task, last)
    part = ending(task, last)
    return cut_of(part, residue.met_from(start)), run_of(part, residue.load()[:len(steps_of(part))])


def drill_papers(task, run, till):
    """For each beat from now to `till` some cut and run of the task from that beat on, that meet at `till`."""
    task, run = need_drill(task, run, till)
    return tuple([paper_of_rest(rest_at(task, run, beat), till) for beat in range(task[2], till + 1)])


def drill_holds(task, run, till, value):
    """Whether any value has for each beat from now to `till` a cut and a run from that beat on, that meet at `till`."""
    task, run = need_drill(task, run, till)
    if not is_row_of(value, till - task[2] + 1) or not all([is_row_of(pair, 2) for pair in value]):
        return False
    return all([meets_by(rest_at(task, run, task[2] + at), till, pair[1], pair[0]) for at, pair in enumerate(value)])
