"""A desk: a world that is led by lines."""

from outsoonest.drawing import drawn, is_number_word, joined_by, number_of, step_words, text_of_house
from outsoonest.errors import BadText, OutError
from outsoonest.meaning import best_now, lot_now, steps_now, turned_now
from outsoonest.world import World

# How many numbers stand behind the words of news.
NEWS = {"found": 2, "smoke": 2, "clear": 1, "shut": 3, "open": 3, "width": 2}

ASKED = ("fold", "again", "draw", "house", "now", "best", "lot", "steps", "turned")


def is_line(words):
    """Whether words are a line of a desk."""
    rest = words[1:]
    if words[0] in NEWS:
        return len(rest) == NEWS[words[0]] and all([is_number_word(word) for word in rest])
    if words[0] in ("tell", "go"):
        return all([word in ("-", "s") or is_number_word(word) for word in rest])
    return words[0] in ASKED and not rest


def step_of(word):
    """The step that a word tells."""
    if word == "-":
        return None
    return "stand" if word == "s" else number_of(word)


def told_news(world, words):
    """What there is to say of a line of news."""
    world.hear([words[0]] + [number_of(word) for word in words[1:]])
    if words[0] == "found":
        return "person " + str(len(world.book.state[3]) - 1)
    return "ok"


def told_steps(world, words):
    """What there is to say when all are told their steps."""
    if len(words) == 1:
        world.tell()
    else:
        world.hear(("told", [step_of(word) for word in words[1:]]))
    return "told " + step_words(world.book.state[4])


def gone(world, words):
    """What there is to say when a beat has gone by."""
    if len(words) == 1:
        world.go()
    else:
        world.go([step_of(word) for word in words[1:]])
    return "beat " + str(world.book.state[0])


def asked(world, word):
    """What there is to say of a line that asks."""
    state = world.book.state
    if word == "draw":
        return drawn(state)
    if word == "house":
        return text_of_house(state[2])
    if word == "now":
        return str(state[0])
    if word == "best":
        return joined_by(" ", best_now(state))
    if word == "lot":
        return joined_by(" ", lot_now(state))
    if word == "steps":
        return step_words(steps_now(state))
    return str(turned_now(state))


def said(world, words):
    """What there is to say of a line's words, behind what they tell is done."""
    if words[0] in NEWS:
        return told_news(world, words)
    if words[0] == "tell":
        return told_steps(world, words)
    if words[0] == "go":
        return gone(world, words)
    if words[0] == "fold":
        world.book.fold()
        return "ok"
    if words[0] == "again":
        world.reopen()
        return "ok"
    return asked(world, words[0])


class Desk:
    """A world that is led by lines; `world` is that."""

    def __init__(self, house, end):
        self.world = World(house, end)

    def say(self, line):
        """Does what a line tells, and returns what there is to say; BadText if it is no line."""
        if not isinstance(line, str) or not is_line(line.split(" ")):
            raise BadText(0)
        try:
            return said(self.world, line.split(" "))
        except OutError:
            return "refused"
