"""Pages and journals: [63], [64], and what [66] holds of them."""

import random
import time
import unittest

from outsoonest.errors import BadOctets, BadRow, Broken, Refused
from outsoonest.journals import Journal, journal_cuts, open_journal, plain_journal
from tests.helping import STRANGE, Case, deep, listed, mixed, same
from tests.pages import PlainJournal, page_of, read_pages, whole_rows

HEAD = ("page", 0, 0)
ROWS = (("found", 0, 1), ("told", (None, 3, "stand")), ("x",), ("beat", ()), ("fold", (0, -5, ((0, None),), "a b-c_9", 256 ** 3)),
        ("x",), ("found", 0, 1), ("", "", ()))
NO_ROWS = (None, True, 7, "row", ROWS[0][0], Journal())


def told_of(journal):
    return journal.pages, journal.page, journal.term, journal.told, journal.kept


class Pages(Case):
    """[63]."""

    def test_refused(self):
        page = page_of([HEAD])
        for value in STRANGE + ((), (page,), (page, page, page), "ab", 2):
            for call in (plain_journal, open_journal):
                self.told(Refused, value, call, value)

    def test_errors_page_by_page(self):
        good, none = page_of([HEAD, ("x",)]), ()
        no_octets = (((0, 256), 1), ((4, True), 1), ("ab", -1), (None, -1), (7, -1), (Journal(), -1), ((None,), 0), ((4, 1, 3, -1), 3))
        broken = (((5,), 0), ((4, 0), 1), (good + (4, 1, 1, 1), len(good) + 3), (page_of([("other",)]) + (9,), 11))
        no_head = (page_of([("other",)]), page_of([("pages", 0, 0)]), page_of([("page", 0)]), page_of([("page", 0, 0, 0)]),
                   page_of([("page", -1, 0)]), page_of([("page", 0, -1)]), page_of([("page", None, 0)]), page_of([("page", 0, ())]),
                   page_of([("page", "0", 0)]), page_of([("page", 0, "0")]), page_of([("found", 0, 0)]) + good)
        for call in (plain_journal, open_journal):
            for bad, at in no_octets:
                self.told(BadOctets, at, call, (bad, bad))
                self.told(BadOctets, at, call, (good, bad))
                self.told(BadOctets, at, call, (none, bad))
                for other, place in broken:
                    self.told(Broken, place, call, [other, bad])
                    self.told(BadOctets, at, call, [bad, other])
                for other in no_head:
                    self.told(Broken, 0, call, (other, bad))
                    self.told(BadOctets, at, call, (bad, other))
            for bad, place in broken:
                for other in (good, none):
                    self.told(Broken, place, call, (bad, other))
                    self.told(Broken, place, call, (other, bad))
                for other in no_head:
                    self.told(Broken, place, call, (bad, other))
                    self.told(Broken, 0, call, (other, bad))
            for bad in no_head:
                for other in (good, none, bad):
                    self.told(Broken, 0, call, (bad, other))
                    self.told(Broken, 0, call, (other, bad))

    def test_no_page_counts(self):
        head, two = page_of([HEAD]), page_of([("page", 3, 2), ("x",)])
        for one in ((), head[:1], head[:-1], two, two + page_of([("y",)])[:-1], two[:5]):
            for other in ((), head[:5], two):
                for call in (plain_journal, open_journal):
                    self.told(Broken, -1, call, (one, other))

    def test_which_page_counts(self):
        a, b = ("a",), ("b", 2)
        for first, second, told in (
                (page_of([HEAD]), (), (0, 0, ())), ((), page_of([HEAD]), (1, 0, ())),
                (page_of([HEAD, a]), page_of([HEAD, b]), (0, 0, (a,))), (page_of([HEAD, a]), page_of([("page", 1, 0), b]), (1, 1, (b,))),
                (page_of([("page", 10 ** 9, 1), a, b]), page_of([("page", 255, 1), b]), (0, 10 ** 9, (a, b))),
                (page_of([("page", 5, 1), a]), page_of([("page", 6, 2), b]), (0, 5, (a,))),
                (page_of([("page", 5, 1), a]), page_of([("page", 6, 2), b, a]), (1, 6, (b, a))),
                (page_of([("page", 7, 3), a, b]), page_of([("page", 7, 0), b]), (1, 7, (b,))),
                (page_of([("page", 7, 0), b]), page_of([("page", 7, 1), a]), (0, 7, (b,)))):
            for torn in ((), (4,), page_of([("page", 9, 9)])[:-1]):
                pages = (first + torn, second + torn)
                self.gives(told + (len(pages[told[0]]) - len(torn),), plain_journal, pages)

    def test_cut_at_every_octet(self):
        whole = page_of([("page", 4, 2)] + list(ROWS))
        for other in ((), page_of([("page", 3, 1), ("old",), ("older", None)]), page_of([("page", 4, 0), ("z",)])):
            for cut in range(len(whole) + 1):
                for pages in ((whole[:cut], other), (other, whole[:cut])):
                    told = read_pages(pages)
                    if told is None:
                        self.told(Broken, -1, plain_journal, pages)
                    else:
                        self.gives(told, plain_journal, pages)
                        self.check_opened(pages, told)

    def check_opened(self, pages, told):
        page, term, rows, behind = told
        journal = open_journal(listed(pages))
        kept = tuple([octets[:behind] if at == page else octets for at, octets in enumerate(pages)])
        self.assertTrue(same(told_of(journal), (kept, page, term, rows, behind)))
        self.assertEqual((journal.loose(), journal_cuts(journal)), (0, (rows,)))


class Journals(Case):
    """[64]."""

    def test_new(self):
        journal = Journal()
        head = page_of([HEAD])
        self.assertTrue(same(told_of(journal), ((head, ()), 0, 0, (), len(head))))
        self.assertEqual((journal.loose(), journal_cuts(journal)), (0, ((),)))
        self.assertIsNone(journal.cut(0))
        self.assertIsNone(journal.keep())
        self.assertTrue(same(told_of(journal), ((head, ()), 0, 0, (), len(head))))

    def test_laid_and_kept(self):
        for other in (listed, mixed, tuple):
            journal, plain = Journal(), PlainJournal()
            for at, row in enumerate(ROWS):
                self.assertEqual(journal.lay(row=other(row)), at + 1)
                plain.lay(row)
                self.assertTrue(same(told_of(journal), plain.told()))
                self.assertEqual(journal.loose(), plain.loose())
                if at % 3 == 1:
                    self.assertIsNone(journal.keep())
                    plain.keep()
                self.assertTrue(same(journal_cuts(journal), plain.cuts()))

    def test_begun(self):
        for other in (listed, mixed, tuple):
            journal, plain = Journal(), PlainJournal()
            for row in ROWS[:3]:
                journal.lay(row)
                plain.lay(row)
            for rows in (ROWS[3:5], (), ROWS[:1]):
                self.assertIsNone(journal.begin(rows=other(rows)))
                plain.begin(rows)
                self.assertTrue(same(told_of(journal), plain.told()))
                self.assertEqual((journal.kept, journal.loose()), (0, len(journal.pages[journal.page])))
                self.assertTrue(same(journal_cuts(journal), plain.cuts()))
                journal.keep()
                plain.keep()

    def test_a_list_that_is_changed_later(self):
        row = ["told", [None, 3]]
        journal = Journal()
        journal.lay(row)
        journal.begin([row])
        row[1][0] = 9
        row.append(0)
        self.assertEqual(journal.told, (("told", (None, 3)),))
        pages = [list(page) for page in journal.pages]
        opened = open_journal(pages)
        pages[1].append(0)
        pages[0].clear()
        self.assertEqual(opened.pages, journal.pages)

    def same_behind(self, journal, error, held, call, *args):
        before = told_of(journal)
        self.told(error, held, call, *args)
        self.assertTrue(same(told_of(journal), before))

    def test_refused(self):
        journal = Journal()
        for again in range(3):
            for value in STRANGE + ((), "row", 0):
                if not isinstance(value, (list, tuple)):
                    self.same_behind(journal, BadRow, -1, journal.lay, value)
                    self.same_behind(journal, Refused, value, journal.begin, value)
                    self.same_behind(journal, BadRow, -1, journal.begin, [("x",), value, None])
            for row, at in (((), -1), ((0,), 0), (("X",), 0), (("x", True), 1), (("x", 0, journal), 2), (("x", deep(40)), 1), ((None, 0), 0)):
                self.same_behind(journal, BadRow, at, journal.lay, row)
                self.same_behind(journal, BadRow, at, journal.begin, (("x",), row, ()))
            for value in STRANGE + (journal.loose() + 1, -1, "0", (0,)):
                self.same_behind(journal, Refused, value, journal.cut, value)
            journal.lay(("x", again))
            if again == 1:
                journal.begin([("y",)])


class Cuts(Case):
    """[64], [66]: what stands behind a cut."""

    def led(self, draw, many):
        """Two journals led alike, one of the tests' own; what was told to each page, and what of it was kept."""
        journal, plain = Journal(), PlainJournal()
        for _ in range(many):
            what = draw.choice(("lay", "lay", "lay", "keep", "begin", "cut"))
            if what == "lay":
                row = draw.choice(ROWS)
                self.assertEqual(journal.lay(row), plain.lay(row))
            elif what == "keep":
                journal.keep()
                plain.keep()
            elif what == "begin":
                rows = tuple(draw.choice(ROWS) for _ in range(draw.randint(0, 3)))
                journal.begin(rows)
                plain.begin(rows)
            else:
                left = draw.randint(0, journal.loose())
                journal.cut(left)
                plain.cut(left)
            self.assertTrue(same(told_of(journal), plain.told()))
        return journal, plain

    def test_drawn(self):
        draw = random.Random(181)
        fallen = 0
        for _ in range(60):
            seed, many = draw.randrange(10 ** 9), draw.randint(1, 14)
            journal, plain = self.led(random.Random(seed), many)
            self.assertTrue(same(journal_cuts(journal), plain.cuts()))
            self.assertEqual(journal.loose(), plain.loose())
            seen = []
            for left in range(plain.loose() + 1):
                journal, plain = self.led(random.Random(seed), many)
                page, kept = journal.page, whole_rows(plain.pages[plain.page][:plain.kept])[0]
                laid = whole_rows(plain.pages[plain.page])[0]
                cuts = journal_cuts(journal)
                self.assertIsNone(journal.cut(left=left))
                plain.cut(left)
                self.assertTrue(same(told_of(journal), plain.told()))
                self.check_stands(journal, page == journal.page, kept, laid)
                fallen += page != journal.page
                if not seen or seen[-1] != journal.told:
                    seen.append(journal.told)
                before = told_of(journal)
                journal.cut(0)
                self.assertTrue(same(told_of(journal), before))
                self.assertEqual((journal.loose(), journal_cuts(journal)), (0, (journal.told,)))
                self.assertTrue(same(told_of(open_journal(journal.pages)), before))
            self.assertEqual(tuple(seen), cuts)
        self.assertGreater(fallen, 100)

    def check_stands(self, journal, is_same_page, kept, laid):
        """All rows that were kept stand, and the first ones of the others; or just those ahead of the page."""
        if is_same_page:
            rows = laid[1:1 + len(journal.told)]
            self.assertEqual(journal.told, tuple(rows))
            self.assertGreaterEqual(len(rows), max(laid[0][2], len(kept) - 1))
        else:
            self.assertEqual(kept, [])

    def test_begun_and_not_kept(self):
        for end in range(len(page_of([("page", 1, 2), ROWS[1], ROWS[4]])) + 1):
            journal = Journal()
            journal.lay(ROWS[0])
            ahead = journal.pages[0]
            journal.begin([ROWS[1], ROWS[4]])
            page = journal.pages[1]
            self.assertEqual((journal.pages[0], journal.kept, journal.term), (ahead, 0, 1))
            journal.cut(end)
            if end == len(page):
                self.assertEqual(told_of(journal), ((ahead, page), 1, 1, (ROWS[1], ROWS[4]), end))
            else:
                # All of the page ahead is kept; the torn one stays as it is, till it is begun anew.
                self.assertEqual(told_of(journal), ((ahead, page[:end]), 0, 0, (ROWS[0],), len(ahead)))
                journal.begin([("x",)])
                self.assertEqual(told_of(journal), ((ahead, page_of([("page", 1, 1), ("x",)])), 1, 1, (("x",),), 0))

    def test_alike_side_by_side(self):
        journal = Journal()
        journal.lay(("x",))
        self.assertEqual(journal_cuts(journal), ((), (("x",),)))
        journal.lay(("x",))
        self.assertEqual(journal_cuts(journal), ((), (("x",),), (("x",), ("x",))))
        # The same rows, before and behind the page is whole.
        journal.begin([("x",), ("x",)])
        self.assertEqual(journal_cuts(journal), ((("x",), ("x",)),))
        journal.lay(("y",))
        self.assertEqual(journal_cuts(journal), ((("x",), ("x",)), (("x",), ("x",), ("y",))))
        journal.begin([("x",)])
        self.assertEqual(journal_cuts(journal), ((("x",), ("x",), ("y",)), (("x",),)))
        journal.begin([])
        self.assertEqual(journal_cuts(journal), ((("x",),), ()))
        journal.keep()
        self.assertEqual(journal_cuts(journal), ((),))
        # Alike, but not side by side.
        journal.begin([("x",), ("y",)])
        journal.begin([("x",)])
        journal.lay(("y",))
        self.assertEqual(journal_cuts(journal), ((("x",), ("y",)), (("x",),), (("x",), ("y",))))

    def test_opened_of_like_terms(self):
        first, second = page_of([("page", 2, 0), ("a",)]), page_of([("page", 2, 1), ("b",)])
        journal = open_journal((first + (4,), second + (4, 1)))
        self.assertEqual(told_of(journal), ((first, second + (4, 1)), 0, 2, (("a",),), len(first)))
        journal.begin([("c",)])
        self.assertEqual(told_of(journal), ((first, page_of([("page", 3, 1), ("c",)])), 1, 3, (("c",),), 0))

    def test_great(self):
        began = time.monotonic()
        journal = open_journal((page_of([("page", 10 ** 9 - 1, 0)]), ()))
        journal.begin([("x", "x" * 300)] * 6)
        while len(journal.pages[1]) < 3990:
            journal.lay(("",))
        cuts = journal_cuts(journal)
        self.assertEqual((journal.term, len(cuts), cuts[0]), (10 ** 9, len(journal.told) - 6 + 2, ()))
        pages = journal.pages
        journal.cut(3000)
        self.assertEqual(plain_journal(pages)[:2], (1, 10 ** 9))
        self.assertEqual(open_journal(pages).told, cuts[-1])
        self.assertLess(time.monotonic() - began, 10)


if __name__ == "__main__":
    unittest.main()
