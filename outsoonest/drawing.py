"""Houses as text, and states drawn."""

from outsoonest.errors import BadText
from outsoonest.houses import MOST_PASSAGES, MOST_ROOMS, check_house, is_beat, is_passage, is_place
from outsoonest.words import is_within

FIGURES = "0123456789"

# Numbers have at most so many figures.
MOST_FIGURES = 9


def is_number_word(word):
    """Whether a word is a number, without needless noughts."""
    if not 1 <= len(word) <= MOST_FIGURES or [sign for sign in word if sign not in FIGURES]:
        return False
    return word == "0" or word[0] != "0"


def number_of(word):
    """The number that a word tells; None if it tells none."""
    return int(word) if is_number_word(word) else None


def joined_by(sign, numbers):
    """Numbers with a sign between them, "-" for none."""
    return sign.join([str(number) for number in numbers]) if numbers else "-"


def passage_line(passage):
    """The line of a passage in the text of a house."""
    tail, head, length, width, shut = passage
    beats = joined_by(",", shut)
    return f"passage {tail} {head} {length} {width} {beats}"


def text_of_house(house):
    """The text of a house that has been checked."""
    rooms, passages, smoke = house
    signs = "".join([">" if kind == 1 else "." for kind in rooms])
    lines = [f"rooms {signs}"]
    lines.extend([passage_line(passage) for passage in passages])
    lines.extend([f"smoke {room} {beat}" for room, beat in enumerate(smoke) if beat is not None])
    return "\n".join(lines)


def house_text(house):
    """The text of a house: its rooms, then its passages, then its smoke, a line each."""
    return text_of_house(check_house(house))


def rooms_told(line):
    """The rooms that the first line of a text tells; None if it tells none."""
    words = line.split(" ")
    if len(words) != 2 or words[0] != "rooms" or not 1 <= len(words[1]) <= MOST_ROOMS:
        return None
    if [sign for sign in words[1] if sign not in (".", ">")]:
        return None
    return tuple([1 if sign == ">" else 0 for sign in words[1]])


def passage_told(rooms, line):
    """The passage that a line of a text tells; None if it tells none."""
    words = line.split(" ")
    if len(words) != 6 or words[0] != "passage":
        return None
    shut = () if words[5] == "-" else tuple([number_of(word) for word in words[5].split(",")])
    passage = tuple([number_of(word) for word in words[1:5]]) + (shut,)
    return passage if is_passage(rooms, passage) else None


def smoke_told(rooms, line):
    """(room, beat) of the smoke that a line of a text tells; None if it tells none."""
    words = line.split(" ")
    if len(words) != 3 or words[0] != "smoke":
        return None
    room, beat = number_of(words[1]), number_of(words[2])
    if not is_within(room, 0, len(rooms) - 1) or rooms[room] == 1 or not is_beat(beat):
        return None
    return room, beat


def read_house(text):
    """The house that any value tells as its text; BadText with the first line that cannot be."""
    if not isinstance(text, str):
        raise BadText(0)
    lines = text.split("\n")
    rooms = rooms_told(lines[0])
    if rooms is None:
        raise BadText(1)
    passages = []
    smoke = [None] * len(rooms)
    behind = -1
    for at in range(1, len(lines)):
        passage = passage_told(rooms, lines[at])
        place = smoke_told(rooms, lines[at])
        if passage is not None and behind < 0 and len(passages) < MOST_PASSAGES:
            passages.append(passage)
        elif place is not None and place[0] > behind:
            behind = place[0]
            smoke[behind] = place[1]
        else:
            raise BadText(at + 1)
    return rooms, tuple(passages), tuple(smoke)


def step_word(step):
    """The word of a step: "-" for none, "s" to stand, else the passage."""
    if step is None:
        return "-"
    return "s" if step == "stand" else str(step)


def step_words(steps):
    """The words of steps by person, "-" if there is nobody."""
    return " ".join([step_word(step) for step in steps]) if steps else "-"


def urgencies_there(state, room):
    """The urgencies of all who are in a room now, not lost, or out by it, ascending."""
    return sorted([urgency for word, place, beat, urgency in state[3]
                   if place == room and (word == "out" or word == "here" and beat == state[0])])


def comings_to(state, room):
    """(beat, urgency) of all who are to come to a room, ascending."""
    return sorted([(beat, urgency) for word, place, beat, urgency in state[3]
                   if place == room and word == "here" and beat > state[0]])


def room_line(state, room):
    """The line of a room."""
    sign = "." if is_place(state[2], room, state[0]) else "~"
    if state[2][0][room] == 1:
        sign = ">"
    there = "".join([str(urgency) for urgency in urgencies_there(state, room)])
    coming = ",".join([f"{beat}:{urgency}" for beat, urgency in comings_to(state, room)])
    lost = len([place for word, place, _, _ in state[3] if word == "lost" and place == room])
    return " ".join([str(room), sign, there if there else "-", coming if coming else "-", str(lost)])


def passage_now(state, number):
    """The line of a passage as it is now."""
    tail, head, length, width, shut = state[2][1][number]
    word = "shut" if width == 0 or state[0] in shut else "open"
    return f"{number} {tail}>{head} {length} {width} {word}"


def drawn(state):
    """A state as lines: the beat, the rooms and who is there, the passages, and what each is told."""
    now, end, house, _, told = state
    lines = [f"beat {now} of {end}"]
    lines.extend([room_line(state, room) for room in range(len(house[0]))])
    lines.extend([passage_now(state, number) for number in range(len(house[1]))])
    lines.append("told " + step_words(told))
    return "\n".join(lines)
