"""A world: a book of news that tells everybody their step, and lets beats go by."""

from outsoonest.book import new_book, open_book
from outsoonest.meaning import steps_now
from outsoonest.state import is_there, out_till


def steps_done(state):
    """By person of a state the step that they were told, to stand for who was told nothing; None for who has none."""
    steps = []
    for person, step in enumerate(state[4]):
        if is_there(state, person):
            steps.append("stand" if step is None else step)
        else:
            steps.append(None)
    return tuple(steps)


class World:
    """A house and its people, led by news; `book` is the book of all that was told."""

    def __init__(self, house, end):
        self.book = new_book(house, end)

    def hear(self, row):
        """Tells the book a row of news; how many rows its journal has."""
        return self.book.tell(row)

    def tell(self):
        """Tells everybody the step of a best plan, as few as can be another one than before; the steps by person."""
        steps = steps_now(self.book.state)
        self.book.tell(("told", steps))
        return steps

    def go(self, steps=None):
        """Lets a beat go by in which all do these steps, or what they were told; the steps by person."""
        if steps is None:
            steps = steps_done(self.book.state)
        self.book.tell(("beat", steps))
        return tuple(steps)

    def reopen(self):
        """Opens the book anew from its pages."""
        self.book = open_book(self.book.both_pages())

    def came_out(self):
        """By beat, from 0 to now, how many were out."""
        return tuple([out_till(self.book.state, beat) for beat in range(self.book.state[0] + 1)])
