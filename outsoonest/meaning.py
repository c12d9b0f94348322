"""What a state means: how many can still be out by when, who is saved, what each is to do, and what steps lose."""

from outsoonest.linking import first_of
from outsoonest.news import check_news
from outsoonest.soonest import soonest_of
from outsoonest.state import all_tuples, followed, state_of, steps_told, task_of, with_word
from outsoonest.turned import steps_by, turning_fewest


def best_now(state):
    """By beat, from now to the end, how many are out by then at most, with those who are out already."""
    _, task = task_of(state)
    already = len(with_word(state, "out"))
    return tuple([already + many for many in soonest_of(task)])


def lot_now(state):
    """The ascending persons of the book, not out yet, of the first lot that can be out by the end."""
    persons, task = task_of(state)
    return tuple([persons[at] for at in first_of(task)])


def meaning(house, end, rows):
    """The state behind rows of news, how many can be out by when, and the first lot."""
    state = state_of(house, end, rows)
    return state, best_now(state), lot_now(state)


def turning_now(state):
    """How many are turned at least, and the steps by person of the book that turn so many."""
    persons, task = task_of(state)
    steps = [None] * len(state[3])
    # At the last beat steps may still be told, but nobody has one.
    if task[2] == task[3]:
        return 0, tuple(steps)
    number, run, _ = turning_fewest(task, steps_told(state))
    for person, step in zip(persons, steps_by(task, run)):
        steps[person] = step
    return number, tuple(steps)


def turned_now(state):
    """How many of the first lot, at least, have another step by a best plan than the one they were told."""
    number, _ = turning_now(state)
    return number


def steps_now(state):
    """By person of the book their step of this beat by some best plan that turns as few as can be."""
    _, steps = turning_now(state)
    return steps


def falls(state, steps):
    """By beat, from the next one to the end, how many fewer can be out by then at most behind these steps."""
    row = check_news(("beat", steps))
    later = followed(all_tuples(state), row)
    return tuple([many - left for many, left in zip(best_now(state)[1:], best_now(later))])
