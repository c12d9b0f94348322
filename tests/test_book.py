"""Books: news kept in a journal, told, cut, folded and opened anew: [65], [66]."""

import random
import time
import unittest

from outsoonest.book import Book, fold_length, new_book, open_book, plain_book, space
from outsoonest.errors import BadHouse, BadOctets, BadRow, Broken, NotLet, Refused
from outsoonest.journals import Journal, plain_journal
from outsoonest.state import follow, start, state_of
from tests.books import PlainBook, draw_news
from tests.draws import draw_house, great_task
from tests.helping import STRANGE, Case, listed, mixed, same
from tests.pages import PlainJournal, octets_of, page_of, read_pages
from tests.test_crowds import NO_HOUSES
from tests.test_news import NO_STEPS

HOUSE = ((0, 1), ((0, 1, 1, 2, ()),), (None, None))
BEGIN = ("house", HOUSE, 5)
NEWS = (("found", 0, 1), ("smoke", 0, 3), ("told", ("stand",)), ("beat", (0,)))
NO_PAGES = ((0, 256), 1), ((4, True), 1), ("ab", -1), (None, -1)


def told_of(book):
    journal = book.journal
    return journal.pages, journal.page, journal.term, journal.told, journal.kept, book.state


def book_of(rows, house=HOUSE, end=5):
    book = new_book(house, end)
    for row in rows:
        book.tell(row)
    return book


class Refusing(Case):
    def test_new(self):
        for value, at in NO_HOUSES:
            self.told(BadHouse, at, new_book, value, None)
        self.refuses(Refused, new_book, (HOUSE, 0), 1, STRANGE + (60, -1, (0,), "9"))
        for end in (0, 59):
            for house in (HOUSE, listed(HOUSE), mixed(HOUSE)):
                book = new_book(end=end, house=house)
                pages = page_of([("page", 0, 0), ("house", HOUSE, end)]), ()
                self.assertTrue(same(told_of(book), (pages, 0, 0, (("house", HOUSE, end),), len(pages[0]), (0, end, HOUSE, (), ()))))
                self.assertIsInstance(book, Book)
                self.assertIsInstance(book.journal, Journal)

    def same_behind(self, book, error, held, call, *args):
        before = told_of(book)
        self.told(error, held, call, *args)
        self.assertTrue(same(told_of(book), before))

    def test_rows(self):
        book = book_of(NEWS[:3])
        for call, more in ((book.tell, ()), (book.tell_cut, (None,)), (book.tell_cut, (0,))):
            for value, at in (((), 0), (None, 0), (True, 0), ("beat", 0), (BEGIN, 0), (("fold", book.state), 0), (("found", 0), 0),
                              (("found", True, 0), 1), (("found", 20, 10), 1), (("found", 0, 10), 2), (("shut", 0, 0, 60), 3), (book, 0)):
                self.same_behind(book, BadRow, at, call, value, *more)
            for value in NO_STEPS:
                self.same_behind(book, BadRow, 1, call, ("beat", value), *more)
            for row, word in ((("found", 1, 0), "room"), (("width", 1, 0), "passage"), (("smoke", 0, 6), "beat"), (["beat", []], "person"),
                              (("told", (1,)), "passage"), (("beat", (None,)), "step")):
                self.same_behind(book, NotLet, word, call, row, *more)
        self.same_behind(book_of((NEWS[0],) * 3), NotLet, "width", book_of((NEWS[0],) * 3).tell, ("beat", (0, 0, 0)))

    def test_octets_left(self):
        book = book_of(NEWS[:3])
        length = len(octets_of(NEWS[3]))
        for value in STRANGE + (length + 1, -1, (0,), "0", 1000):
            self.same_behind(book, Refused, value, book.tell_cut, NEWS[3], value)
        for value in STRANGE + (fold_length(book) + 1, -1, (0,), "0"):
            self.same_behind(book, Refused, value, book.fold_cut, value)
        self.assertIs(book.tell_cut(row=NEWS[3], left=length - 1), False)
        self.assertIs(book.fold_cut(left=fold_length(book) - 1), False)

    def test_pages(self):
        good = page_of([("page", 0, 1), BEGIN])
        for call in (plain_book, open_book):
            for value in STRANGE + ((), (good,), (good, good, good), "ab", 2):
                self.told(Refused, value, call, value)
            for bad, at in NO_PAGES:
                self.told(BadOctets, at, call, (good, bad))
                self.told(BadOctets, at, call, [bad, good])
            self.told(Broken, 0, call, (page_of([BEGIN]), good))
            self.told(Broken, 1, call, (good, (4, 9)))
            self.told(Broken, -1, call, ((), good[:-1]))
            self.told(Broken, -1, call, (page_of([("page", 0, 2), BEGIN]), ()))

    def test_rows_of_pages(self):
        state = state_of(HOUSE, 5, NEWS[:2])
        for at, rows in ((0, ()), (0, (("found", 0, 1),)), (0, (("house", HOUSE),)), (0, (("house", HOUSE, 5, 5),)), (0, (("house", HOUSE, 60),)),
                         (0, (("house", HOUSE, None),)), (0, (("house", (), 5),)), (0, (("house", None, 5),)), (0, (("houses", HOUSE, 5),)),
                         (0, (("fold",),)), (0, (("fold", state, state),)), (0, (("x",), BEGIN)), (0, (("page", 0, 0), BEGIN)),
                         (1, (BEGIN, BEGIN)), (1, (BEGIN, ("fold", state))), (1, (BEGIN, ("x",))), (1, (BEGIN, ("found", 1, 0), NEWS[0])),
                         (1, (("fold", state), BEGIN)), (1, (("fold", state), ("page", 0, 0))), (2, (BEGIN, NEWS[0], NEWS[3] + (0,))),
                         (3, (BEGIN, NEWS[0], NEWS[3], NEWS[3], NEWS[3])), (2, (("fold", state), NEWS[3], ("beat", ("stand",))))):
            pages = page_of([("page", 0, 0)] + list(rows)), ()
            for call in (plain_book, open_book):
                self.told(Broken, at, call, pages)
                self.told(Broken, at, call, pages[::-1])
                # Only the page that counts is looked at.
                self.told(Broken, at, call, (page_of([("page", 3, 0)] + list(rows)), page_of([("page", 2, 1), BEGIN])))
                self.assertIsNotNone(call((page_of([("page", 2, 0)] + list(rows)), page_of([("page", 3, 1), BEGIN]))))
        self.gives(state, plain_book, (page_of([("page", 0, 1), ("fold", state)]), ()))
        self.gives(follow(state, NEWS[3]), plain_book, (page_of([("page", 0, 1), ("fold", state), NEWS[3]]), ()))
        self.gives(start(HOUSE, 5), plain_book, (page_of([("page", 0, 0), BEGIN]) + (4, 1, 3), ()))


class Books(Case):
    def test_told(self):
        for other in (tuple, listed, mixed):
            book = new_book(HOUSE, 5)
            for at, row in enumerate(NEWS):
                self.assertTrue(same(book.tell(row=other(row)), at + 2))
                self.assertTrue(same(book.state, state_of(HOUSE, 5, NEWS[:at + 1])))
                pages = page_of(([("page", 0, 0), BEGIN]) + list(NEWS[:at + 1])), ()
                self.assertTrue(same(told_of(book)[:5], (pages, 0, 0, (BEGIN,) + NEWS[:at + 1], len(pages[0]))))
                self.assertTrue(same(book.both_pages(), pages))
                self.assertEqual(space(book), len(pages[0]))

    def test_told_and_cut_at_every_octet(self):
        for at, row in enumerate(NEWS):
            octets = octets_of(row)
            for left in range(len(octets) + 1):
                book = book_of(NEWS[:at])
                before = told_of(book)
                stands = left == len(octets)
                self.assertIs(book.tell_cut(listed(row), left), stands)
                if stands:
                    self.assertTrue(same(told_of(book), told_of(book_of(NEWS[:at + 1]))))
                else:
                    self.assertTrue(same(told_of(book), before))
                self.assertTrue(same(told_of(open_book(book.both_pages())), told_of(book)))
                # Without being cut, what is left of the octets is read alike.
                pages = before[0][0] + tuple(octets[:left]), ()
                self.assertTrue(same(told_of(open_book(listed(pages))), told_of(book)))
                self.gives(book.state, plain_book, pages)

    def test_folded(self):
        for many in range(5):
            book = book_of(NEWS[:many])
            for term in range(1, 4):
                page = page_of([("page", term, 1), ("fold", book.state)])
                ahead = book.both_pages()
                self.assertEqual(fold_length(book), len(page))
                self.assertIsNone(book.fold())
                pages = (ahead[0], page) if term % 2 else (page, ahead[1])
                self.assertTrue(same(told_of(book)[:5], (pages, term % 2, term, (("fold", book.state),), len(page))))
                self.assertEqual(book.state, state_of(HOUSE, 5, NEWS[:many]))
                self.assertEqual(space(book), len(pages[0]) + len(pages[1]))
                self.assertEqual(plain_book(pages), book.state)
            if many < 4:
                self.assertEqual(book.tell(NEWS[many]), 2)
                self.assertEqual(book.state, state_of(HOUSE, 5, NEWS[:many + 1]))
                self.assertTrue(same(told_of(open_book(book.both_pages())), told_of(book)))

    def test_terms_of_more_octets(self):
        for term in (0, 1, 254, 255, 256, 65534, 65535, 10 ** 9 - 2):
            book = open_book((page_of([("page", term, 1), BEGIN]), page_of([("page", term + 1, 1), BEGIN, NEWS[0]])))
            length = fold_length(book)
            self.assertIs(book.fold_cut(length), True)
            self.assertEqual((book.journal.term, book.journal.page, len(book.both_pages()[0])), (term + 2, 0, length))

    def test_folded_and_cut_at_every_octet(self):
        for folded in (False, True):
            length = fold_length(book_of(NEWS[:3]))
            for left in range(length + 1):
                book = book_of(NEWS[:3])
                if folded:
                    book.fold()
                    book.fold()
                whole = book_of(NEWS[:3])
                if folded:
                    whole.fold()
                    whole.fold()
                before, page = told_of(book), book.journal.page
                self.assertEqual(fold_length(book), length)
                self.assertIs(book.fold_cut(left), left == length)
                self.assertEqual(book.state, before[5])
                if left == length:
                    whole.fold()
                    self.assertTrue(same(told_of(book), told_of(whole)))
                else:
                    self.assertTrue(same(told_of(book)[1:], before[1:]))
                    self.assertEqual(book.both_pages()[page], before[0][page])
                    whole.fold()
                    self.assertEqual(book.both_pages()[1 - page], whole.both_pages()[1 - page][:left])
                self.assertTrue(same(told_of(open_book(book.both_pages())), told_of(book)))
                self.assertEqual(book.tell(NEWS[3]), len(book.journal.told))
                self.assertEqual(book.state, state_of(HOUSE, 5, NEWS))
                self.assertEqual(plain_book(book.both_pages()), book.state)

    def test_what_is_told_by_a_list_that_changes(self):
        house, row = listed(HOUSE), listed(NEWS[2])
        book = new_book(house, 5)
        house[0][0] = 1
        book.tell(NEWS[0])
        book.tell(row)
        row[1][0] = None
        self.assertTrue(same(told_of(book), told_of(book_of((NEWS[0], NEWS[2])))))


class Drawn(Case):
    """[66]: told, cut, folded, cut in the fold and opened anew, in any order."""

    def test_beside_plain_pages(self):
        draw = random.Random(191)
        counts = {}
        for _ in range(40):
            house, end = draw_house(draw, rooms=5, passages=8, beats=10, width=3), draw.choice((3, 8, 12))
            book, plain, pages, rows = new_book(house, end), PlainBook(house, end), PlainJournal(), []
            pages.lay(("house", house, end))
            pages.keep()
            for _ in range(50):
                what = draw.choice(("tell", "tell", "tell", "cut", "fold", "fold_cut", "open"))
                told = self.do(draw, what, book, plain, pages, rows)
                counts[what, told] = counts.get((what, told), 0) + 1
                if what == "open":
                    book = open_book(draw.choice((tuple, listed))(book.both_pages()))
                self.assertEqual(book.state, plain.state())
                self.assertEqual(told_of(book)[:5], pages.told())
                self.assertTrue(same(plain_book(book.both_pages()), book.state))
                self.assertEqual(space(book), len(pages.pages[0]) + len(pages.pages[1]))
            self.assertEqual(book.state, state_of(house, end, rows))
        self.assertTrue(all(many > 20 for many in counts.values()) and len(counts) == 6, counts)

    def do(self, draw, what, book, plain, pages, rows):
        """One thing done to a book, and to plain pages beside it; what is told of it."""
        if what in ("tell", "cut"):
            row = draw_news(draw, plain)
            if plain.why_not(row) is not None:
                self.told(NotLet, plain.why_not(row), book.tell, row)
                return None
            left = draw.choice((len(octets_of(row)), draw.randint(0, len(octets_of(row)))))
            many = pages.lay(row)
            if what == "tell":
                pages.keep()
                self.assertEqual(book.tell(row), many)
            else:
                pages.cut(left)
                self.assertIs(book.tell_cut(row, left), left == len(octets_of(row)))
            if what == "tell" or left == len(octets_of(row)):
                plain.tell(row)
                rows.append(row)
            return None
        if what in ("fold", "fold_cut"):
            pages.begin([("fold", plain.state())])
            self.assertEqual(fold_length(book), pages.loose())
            left = draw.choice((0, pages.loose(), draw.randint(0, pages.loose())))
            if what == "fold":
                pages.keep()
                return book.fold()
            told = left == pages.loose()
            pages.cut(left)
            self.assertIs(book.fold_cut(left), told)
            return told
        return None

    def test_read_at_every_cut(self):
        """The pages cut at every octet of what was written last tell the state of the rows that stand whole."""
        draw = random.Random(192)
        house, end = draw_house(draw, rooms=5, passages=8, beats=10, width=3), 9
        book, plain, states = new_book(house, end), PlainBook(house, end), []
        while len(states) < 20:
            row = draw_news(draw, plain)
            if plain.why_not(row) is None:
                plain.tell(row)
                book.tell(row)
                states.append(plain.state())
        page = book.both_pages()[0]
        first = len(page_of([("page", 0, 0), ("house", house, end)]))
        for cut in range(first, len(page) + 1):
            many = len(plain_journal((page[:cut], ()))[2]) - 1
            self.assertEqual(plain_book((page[:cut], ())), states[many - 1] if many else start(house, end))
        for cut in range(len(page_of([("page", 0, 0)])), first):
            self.told(Broken, 0, plain_book, (page[:cut], ()))
        self.assertEqual(read_pages((page, ()))[2], book.journal.told)

    def test_great(self):
        draw = random.Random(193)
        house = great_task(194)[0]
        book, plain = new_book(house, 59), PlainBook(house, 59)
        rows = [("found", draw.randrange(18), draw.randrange(10)) for _ in range(60)]
        for row in rows:
            plain.tell(row)
        while len(rows) < 400:
            row = draw_news(draw, plain, 0)
            if row[0] != "found" and plain.why_not(row) is None and (row[0] != "beat" or len(rows) > 6 * plain.now):
                plain.tell(row)
                rows.append(row)
        began = time.monotonic()
        for row in rows:
            book.tell(row)
        self.assertEqual(book.state, plain.state())
        self.assertEqual(plain_book(book.both_pages()), book.state)
        self.assertIs(book.fold_cut(fold_length(book) - 1), False)
        self.assertEqual(open_book(book.both_pages()).state, book.state)
        book.fold()
        self.assertEqual(open_book(book.both_pages()).state, book.state)
        self.assertLess(time.monotonic() - began, 15)


if __name__ == "__main__":
    unittest.main()
