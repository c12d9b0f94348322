"""Books: the news of a house kept in a journal, and the state behind the rows that stand."""

from outsoonest.errors import BadHouse, Broken, Refused
from outsoonest.forms import value_length
from outsoonest.journals import Journal, head_of, open_journal, plain_journal
from outsoonest.news import check_news
from outsoonest.state import followed, followed_or_none, start
from outsoonest.words import is_number


def is_begin(row):
    """Whether the first row of a book tells a house for which there is a state, or what was folded."""
    if row[0] == "fold":
        return len(row) == 2
    if row[0] != "house" or len(row) != 3:
        return False
    try:
        start(row[1], row[2])
    except (BadHouse, Refused):
        return False
    return True


def state_behind(rows):
    """The state behind the rows of a book; Broken with the number of the first that is none, or is not let."""
    if not rows or not is_begin(rows[0]):
        raise Broken(0)
    state = rows[0][1] if rows[0][0] == "fold" else start(rows[0][1], rows[0][2])
    for at in range(1, len(rows)):
        state = followed_or_none(state, rows[at])
        if state is None:
            raise Broken(at)
    return state


def plain_book(pages):
    """The state that the book of two pages tells."""
    _, _, rows, _ = plain_journal(pages)
    return state_behind(rows)


def folded(book):
    """The row that tells a book's state in the place of all its rows."""
    return "fold", book.state


def fold_length(book):
    """How many octets the page of a fold would have."""
    return len(head_of(book.journal.term + 1, 1)) + value_length(folded(book))


def space(book):
    """How many octets both pages of a book have."""
    return sum([len(page) for page in book.both_pages()])


class Book:
    """A journal whose rows tell a house and its news, and the state behind them."""

    def __init__(self, journal):
        self.journal = journal
        self.state = state_behind(journal.told)

    def both_pages(self):
        """The pages of the journal."""
        return self.journal.pages

    def tell(self, row):
        """Lays a row of news and keeps it; how many rows the journal has."""
        row = check_news(row)
        state = followed(self.state, row)
        many = self.journal.lay(row)
        self.journal.keep()
        self.state = state
        return many

    def tell_cut(self, row, left):
        """Lays a row of news, and is cut with so many octets of it left; whether it stands."""
        row = check_news(row)
        state = followed(self.state, row)
        length = value_length(row)
        if not is_number(left) or left > length:
            raise Refused(left)
        self.journal.lay(row)
        self.journal.cut(left)
        if left < length:
            return False
        self.state = state
        return True

    def fold(self):
        """Begins the other page with the state alone, and keeps it."""
        self.journal.begin([folded(self)])
        self.journal.keep()

    def fold_cut(self, left):
        """Folds, and is cut when so many octets of the page are written; whether it counts."""
        length = fold_length(self)
        if not is_number(left) or left > length:
            raise Refused(left)
        self.journal.begin([folded(self)])
        self.journal.cut(left)
        return left == length


def new_book(house, end):
    """The book of a new journal in which the house and the end are laid, and kept."""
    _, end, house, _, _ = start(house, end)
    journal = Journal()
    journal.lay(("house", house, end))
    journal.keep()
    return Book(journal)


def open_book(pages):
    """The book that goes on with what is read of two pages."""
    return Book(open_journal(pages))
