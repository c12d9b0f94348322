"""What if: a passage less or wider, a beat lost ahead, and the least end by which all are out."""

from outsoonest.errors import NoBeat, Refused
from outsoonest.houses import BEATS, MOST_WIDTH, need_passage, with_width
from outsoonest.linking import first_of
from outsoonest.lots import is_crowd_paper, papers_of
from outsoonest.soonest import most_till, soonest_of
from outsoonest.unrolled import check_task, ending, starts_of
from outsoonest.words import is_row_of, is_within


def at_width(task, passage, width):
    """The checked task with another width of a passage."""
    return (with_width(task[0], passage, width),) + task[1:]


def without(task, passage):
    """The checked task with the width of a passage 0."""
    return at_width(task, passage, 0)


def wider_by_one(task, passage):
    """The checked task with the width of a passage one more, if that can be."""
    return at_width(task, passage, min(MOST_WIDTH, task[0][1][passage][3] + 1))


def need_passage_of(task, passage):
    """The task, as tuples, where the other is a passage of its house."""
    task = check_task(task)
    need_passage(task[0], passage)
    return task


def without_passage(task, passage):
    """The task with this passage's width 0."""
    return without(need_passage_of(task, passage), passage)


def with_wider(task, passage):
    """The task with this passage's width one more, 9 at most."""
    return wider_by_one(need_passage_of(task, passage), passage)


def later_of(value):
    """Any value that is a task, and the one in which all in rooms now begin a beat later; Refused for any other one."""
    task = check_task(value)
    house, people, now, end = task
    if now == end:
        raise Refused(value)
    later = tuple([(room, beat + 1 if beat == now and house[0][room] == 0 else beat, urgency)
                   for room, beat, urgency in people])
    return task, (house, later, now, end)


def with_later(task):
    """The task in which all who are in a room now that is no way out begin a beat later."""
    _, later = later_of(task)
    return later


def falls_to(numbers, others):
    """By beat how many fewer the others are."""
    return tuple([many - other for many, other in zip(numbers, others)])


def passage_falls(task):
    """By passage, then by beat, how many fewer can be out by it, at most, without the passage."""
    task = check_task(task)
    numbers = soonest_of(task)
    return tuple([falls_to(numbers, soonest_of(without(task, passage))) for passage in range(len(task[0][1]))])


def passage_gains(task):
    """By passage, then by beat, how many more can be out by it, at most, with the passage wider."""
    task = check_task(task)
    numbers = soonest_of(task)
    return tuple([falls_to(soonest_of(wider_by_one(task, passage)), numbers) for passage in range(len(task[0][1]))])


def delay(task):
    """By beat how many fewer can be out by it if all who are in rooms now begin a beat later."""
    task, later = later_of(task)
    return falls_to(soonest_of(task), soonest_of(later))


def lost_with(task, passage):
    """Who of the first lot is not of the first lot without the passage, and who of that one is not of this one."""
    task = need_passage_of(task, passage)
    lot = first_of(task)
    other = first_of(without(task, passage))
    return (tuple([person for person in lot if person not in other]),
            tuple([person for person in other if person not in lot]))


def least_of(task):
    """The least beat, from now on, by which all of a checked task can be out; None if not even by the last one."""
    low = task[2]
    high = BEATS
    # All can be out by high, if that is a beat; who can be out by a beat can by each later one.
    while low < high:
        middle = (low + high) // 2
        if most_till(task, middle) == len(task[1]):
            high = middle
        else:
            low = middle + 1
    return None if high == BEATS else high


def paper_by(task, beat):
    """The paper of the first by the order who cannot be out by a beat beside those ahead who can."""
    return papers_of(ending(task, beat))[0]


def least_end(task):
    """The least beat by which all can be out, None for none, and some paper that it cannot be sooner."""
    task = check_task(task)
    least = least_of(task)
    if least == task[2]:
        return least, None
    return least, paper_by(task, BEATS - 1 if least is None else least - 1)


def end_holds(task, value):
    """Whether any value is the least beat by which all can be out, None if there is none."""
    task = check_task(task)
    if value is not None and not is_within(value, task[2], BEATS - 1):
        return False
    return value == least_of(task)


def paper_shows(task, end, value):
    """Whether any value is a paper that shows that not all can be out by an end."""
    task = check_task(task)
    if not is_within(end, task[2], BEATS - 1):
        raise NoBeat(end)
    if not is_row_of(value, 2) or not is_within(value[0], 0, len(task[1]) - 1):
        return False
    task = ending(task, end)
    if is_row_of(value[1], 1):
        return value[1][0] == "nowhere" and starts_of(task)[value[0]] is None
    return is_crowd_paper(task, value[1])
