"""Rows of news: what was found, seen, told and done."""

from outsoonest.errors import BadRow
from outsoonest.words import is_row_of, is_sequence, is_within

# By word below what the numbers of its parts are; None for a part that is steps.
NEWS = {"found": (20, 10), "smoke": (20, 60), "clear": (20,), "shut": (60, 60, 60), "open": (60, 60, 60),
        "width": (60, 10), "told": (None,), "beat": (None,)}

MOST_STEPS = 60
STEP_PASSAGES = 60


def is_news_step(value):
    """Whether any value is a step, in whatever house, or None."""
    if value is None or isinstance(value, str) and value == "stand":
        return True
    return is_within(value, 0, STEP_PASSAGES - 1)


def is_news_steps(value):
    """Whether any value is steps as a row of news tells them."""
    return is_sequence(value) and len(value) <= MOST_STEPS and all([is_news_step(step) for step in value])


def is_part(below, value):
    """Whether any value is a number below another one; steps, where that is None."""
    return is_news_steps(value) if below is None else is_within(value, 0, below - 1)


def check_news(value):
    """Any value that is a row of news, as tuples; BadRow with the first part that is none."""
    if not is_sequence(value) or not value or not isinstance(value[0], str) or value[0] not in NEWS:
        raise BadRow(0)
    kinds = NEWS[value[0]]
    if not is_row_of(value, len(kinds) + 1):
        raise BadRow(0)
    for at, below in enumerate(kinds):
        if not is_part(below, value[at + 1]):
            raise BadRow(at + 1)
    return tuple([tuple(part) if is_sequence(part) else part for part in value])


def is_news(value):
    """Whether any value is a row of news."""
    try:
        check_news(value)
    except BadRow:
        return False
    return True
