"""Journals: rows kept on two pages of octets, of which one at least can be read whatever is cut."""

from outsoonest.errors import Broken, Refused
from outsoonest.forms import rows_of, write_row
from outsoonest.words import is_number, is_row_of, is_sequence, need_octets


def head_of(term, many):
    """The octets of the head of a page."""
    return write_row(("page", term, many))


def is_head(row):
    """Whether a row that was read is the head of a page."""
    return len(row) == 3 and row[0] == "page" and is_number(row[1]) and is_number(row[2])


def read_page(value):
    """What any value tells as a page: (term, rows, the place behind them); None if it does not count."""
    rows, behind, _ = rows_of(need_octets(value))
    if not rows:
        return None
    if not is_head(rows[0]):
        raise Broken(0)
    _, term, many = rows[0]
    return (term, rows[1:], behind) if len(rows) > many else None


def plain_journal(pages):
    """The number, the term, the rows and the place behind them of the page that counts."""
    if not is_row_of(pages, 2):
        raise Refused(pages)
    first = read_page(pages[0])
    second = read_page(pages[1])
    if first is None and second is None:
        raise Broken(-1)
    if second is None or first is not None and first[0] >= second[0]:
        return (0,) + first
    return (1,) + second


class Journal:
    """Rows on two pages: behind a cut of the power those that stand whole are read.

    `pages` are both, `page` is the one that is written to, `term` its term,
    `told` its rows behind the head, `kept` how many of its octets are kept.
    """

    def __init__(self):
        self.pages = (head_of(0, 0), ())
        self.page = 0
        self.term = 0
        self.told = ()
        self.kept = len(self.pages[0])

    def put(self, page, octets):
        """Puts octets on a page, in the place of all that was there."""
        self.pages = (octets, self.pages[1]) if page == 0 else (self.pages[0], octets)

    def lay(self, row):
        """Puts a row behind the page's octets, not kept; how many rows the page has now."""
        octets = write_row(row)
        told, _, _ = rows_of(octets)
        self.put(self.page, self.pages[self.page] + octets)
        self.told = self.told + told
        return len(self.told)

    def keep(self):
        """Keeps all octets."""
        self.kept = len(self.pages[self.page])

    def loose(self):
        """How many octets are not kept."""
        return len(self.pages[self.page]) - self.kept

    def begin(self, rows):
        """Begins the other page with these rows, nothing of it kept."""
        if not is_sequence(rows):
            raise Refused(rows)
        octets = list(head_of(self.term + 1, len(rows)))
        for row in rows:
            octets.extend(write_row(row))
        told, _, _ = rows_of(octets)
        self.page = 1 - self.page
        self.put(self.page, tuple(octets))
        self.term += 1
        self.told = told[1:]
        self.kept = 0

    def cut(self, left):
        """Leaves so many of the octets that are not kept, and goes on with what is read then."""
        if not is_number(left) or left > self.loose():
            raise Refused(left)
        self.put(self.page, self.pages[self.page][:self.kept + left])
        self.go_on()

    def go_on(self):
        """Goes on with what is read of the pages, all of it kept."""
        self.page, self.term, self.told, self.kept = plain_journal(self.pages)
        self.put(self.page, self.pages[self.page][:self.kept])


def open_journal(pages):
    """The journal that goes on with what is read of two pages."""
    plain_journal(pages)
    journal = Journal()
    journal.pages = tuple([tuple(page) for page in pages])
    journal.go_on()
    return journal


def ends_of(rows):
    """The places behind rows that are written one behind another."""
    ends = []
    place = 0
    for row in rows:
        place += len(write_row(row))
        ends.append(place)
    return ends


def journal_cuts(journal):
    """The rows that may stand behind a cut now, for ever more octets left; those alike side by side once."""
    rows, _, _ = rows_of(journal.pages[journal.page])
    other = read_page(journal.pages[1 - journal.page])
    ends = ends_of(rows)
    whole = len([end for end in ends if end <= journal.kept])
    found = []
    # Another row stands just where one more is whole.
    for many in range(whole, len(rows) + 1):
        stands = rows[1:many] if many > rows[0][2] else other[1]
        if not found or found[-1] != stands:
            found.append(stands)
    return tuple(found)
