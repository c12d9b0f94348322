"""States: the house and everybody in it as rows of news have told them."""

from outsoonest.errors import BadRow, NotLet, Refused
from outsoonest.houses import check_house, cleared, is_beat, is_place, with_open, with_shut, with_smoke, with_width
from outsoonest.news import check_news
from outsoonest.people import MOST_PEOPLE
from outsoonest.words import is_sequence, is_within


def all_tuples(value):
    """A value with tuples for lists, at every depth."""
    return tuple([all_tuples(part) for part in value]) if is_sequence(value) else value


def start(house, end):
    """The state at beat 0, nobody found."""
    house = check_house(house)
    if not is_beat(end):
        raise Refused(end)
    return 0, end, house, (), ()


def is_there(state, person):
    """Whether one of the people of a state is in a room now."""
    word, _, beat, _ = state[3][person]
    return word == "here" and beat == state[0]


def is_bad_room(state, row):
    """Whether a row tells of a room that is none, or a way out."""
    rooms = state[2][0]
    return row[0] in ("found", "smoke", "clear") and (row[1] >= len(rooms) or rooms[row[1]] == 1)


def is_bad_passage(state, row):
    """Whether a row tells of a passage that is none."""
    return row[0] in ("shut", "open", "width") and row[1] >= len(state[2][1])


def is_bad_beat(state, row):
    """Whether a row tells beats not from now to the end, the first one behind the last, or has no next one."""
    now, end = state[0], state[1]
    if row[0] == "beat":
        return now == end
    if row[0] == "smoke":
        return not now <= row[2] <= end
    if row[0] in ("shut", "open"):
        return not now <= row[2] <= row[3] <= end
    return False


def is_bad_smoke(state, row):
    """Whether a row tells of a room in smoke now, or clears one in which there is none, nor told to come."""
    if row[0] == "clear":
        return state[2][2][row[1]] is None
    return row[0] in ("found", "smoke") and not is_place(state[2], row[1], state[0])


def is_bad_number(state, row):
    """Whether a row finds one person too many, or has steps of another number of persons."""
    many = len(state[3])
    if row[0] == "found":
        return many >= MOST_PEOPLE
    return row[0] in ("told", "beat") and len(row[1]) != many


def step_fault(state, person, step, is_done):
    """Why a step of a person cannot be; None if it can. `is_done` tells whether all there have to have one."""
    if step is None:
        return "step" if is_done and is_there(state, person) else None
    if not is_there(state, person):
        return "step"
    if step == "stand":
        return None
    passages = state[2][1]
    if step >= len(passages):
        return "passage"
    tail, _, _, _, shut = passages[step]
    return "step" if tail != state[3][person][1] or state[0] in shut else None


def steps_fault(state, steps, is_done):
    """Why steps by person cannot be; None if they can."""
    for person, step in enumerate(steps):
        word = step_fault(state, person, step, is_done)
        if word is not None:
            return word
    crowded = [at for at, passage in enumerate(state[2][1]) if steps.count(at) > passage[3]]
    return "width" if crowded else None


def fault_of(state, row):
    """The first word for why a row of news cannot be; None if it can."""
    if is_bad_room(state, row):
        return "room"
    if is_bad_passage(state, row):
        return "passage"
    if is_bad_beat(state, row):
        return "beat"
    if is_bad_smoke(state, row):
        return "smoke"
    if is_bad_number(state, row):
        return "person"
    return steps_fault(state, row[1], row[0] == "beat") if row[0] in ("told", "beat") else None


def edited(house, row):
    """The house behind a row of news that tells of it."""
    if row[0] == "smoke":
        return with_smoke(house, row[1], row[2])
    if row[0] == "clear":
        return cleared(house, row[1])
    if row[0] == "shut":
        return with_shut(house, row[1], row[2], row[3])
    if row[0] == "open":
        return with_open(house, row[1], row[2], row[3])
    return with_width(house, row[1], row[2])


def moved(state, steps):
    """By person how they are at the next beat, behind what they did in this one."""
    people = []
    for at, (word, room, beat, urgency) in enumerate(state[3]):
        if is_there(state, at):
            beat += 1
            if steps[at] != "stand":
                _, room, length, _, _ = state[2][1][steps[at]]
                beat = state[0] + length
        people.append((word, room, beat, urgency))
    return people


def settled(now, house, person):
    """A person of a state, out if they have come to a way out now, lost if in smoke, or on the way to it."""
    word, room, beat, urgency = person
    if word == "here" and house[0][room] == 1 and beat == now:
        word = "out"
    if word == "here" and not is_place(house, room, beat):
        word = "lost"
    return word, room, beat, urgency


def state_with(now, end, house, people, told):
    """The state of these parts, whoever came out or is lost being so, and the lost told nothing."""
    people = tuple([settled(now, house, person) for person in people])
    told = tuple([None if person[0] == "lost" else step for person, step in zip(people, told)])
    return now, end, house, people, told


def followed(state, row):
    """The state behind a row of news, both as tuples; NotLet if it cannot be."""
    word = fault_of(state, row)
    if word is not None:
        raise NotLet(word)
    now, end, house, people, told = state
    if row[0] == "found":
        return state_with(now, end, house, people + (("here", row[1], now, row[2]),), told + (None,))
    if row[0] == "told":
        return state_with(now, end, house, people, row[1])
    if row[0] == "beat":
        return state_with(now + 1, end, house, moved(state, row[1]), (None,) * len(people))
    return state_with(now, end, edited(house, row), people, told)


def follow(state, row):
    """The state behind a row of news; BadRow, or NotLet with the first word for why it cannot be."""
    row = check_news(row)
    return followed(all_tuples(state), row)


def followed_or_none(state, value):
    """The state behind any value that is a row of news that can be; None for any other one."""
    try:
        return followed(state, check_news(value))
    except (BadRow, NotLet):
        return None


def state_of(house, end, rows):
    """The state behind rows of news; Refused with the number of the first that cannot be."""
    state = start(house, end)
    for at, row in enumerate(rows):
        state = followed_or_none(state, row)
        if state is None:
            raise Refused(at)
    return state


def task_of(state):
    """Those, ascending, who are here by a beat not behind the end, and the task of these."""
    now, end, house, people, _ = all_tuples(state)
    persons = tuple([at for at, (word, _, beat, _) in enumerate(people) if word == "here" and beat <= end])
    return persons, (house, tuple([people[person][1:] for person in persons]), now, end)


def steps_told(state):
    """By person of the task the step that they are told, or None."""
    persons, _ = task_of(state)
    return tuple([state[4][person] for person in persons])


def with_word(state, word):
    """The ascending persons with this word."""
    return tuple([at for at, person in enumerate(state[3]) if person[0] == word])


def out_till(state, beat):
    """How many came out at a beat or ahead of it."""
    if not is_within(beat, 0, state[0]):
        raise Refused(beat)
    return len([when for word, _, when, _ in state[3] if word == "out" and when <= beat])
