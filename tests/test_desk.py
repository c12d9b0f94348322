"""A desk and its lines: [80], [81]."""

import random
import time
import unittest

from outsoonest.desk import Desk
from outsoonest.errors import BadHouse, BadText, Refused
from outsoonest.meaning import best_now, lot_now, steps_now, turned_now
from outsoonest.state import state_of
from outsoonest.world import World
from tests.books import PlainBook, draw_news
from tests.draws import draw_house, great_task
from tests.helping import STRANGE, Case, listed, same
from tests.test_book import told_of
from tests.test_crowds import NO_HOUSES
from tests.test_drawing import drawn_by_hand, text_by_hand

HOUSE = ((0, 0, 1), ((0, 1, 1, 1, ()), (1, 2, 1, 1, (3, 4)), (0, 2, 4, 1, ())), (5, None, None))
ASKED = ("fold", "again", "draw", "house", "now", "best", "lot", "steps", "turned")
NEWS = {"found": 2, "smoke": 2, "clear": 1, "shut": 3, "open": 3, "width": 2}
NO_LINES = STRANGE + (
    (), ("best",), ["best"], "", " ", "x", "Best", "best ", " best", "best 0", "best\n", "\nbest", "best\tlot", "best lot", "bests", "fold 1", "again -",
    "draw 0", "house .", "now 1", "lot s", "steps -", "turned 0", "say", "world", "told s", "beat", "beat s", "state", "go\n", "tell\n", "go  s", "tell ",
    "go ", "tell  s", "tell s ", " tell s", "tell stand", "tell S", "tell s x", "tell 01", "tell 00", "tell -1", "tell --", "tell +1", "tell s,s",
    "tell 1000000000", "go 1000000000", "go 0123456789", "go 1.0", "go \u0660", "go \u00b2", "go none", "go None", "found", "found 0", "found 0 0 0",
    "found  0 0", "found 0  0", "found 00 0", "found 0 00", "found 0 01", "found -1 0", "found 0 -", "found - 0", "found s 0", "found 0 0 ", " found 0 0",
    "found 0 1000000000", "found 1000000000 0", "found 0 0\n", "found x 0", "found 0,0", "found 0x1 0", "found 1_0 0", "found +1 0", "found 1e1 0",
    "found " + "1" * 5000 + " 0", "smoke", "smoke 0", "smoke 0 1 2", "clear", "clear 0 0", "clear 00", "clear -", "shut 0 1", "shut 0 1 2 3", "shut 0 1 -",
    "open 0 1", "open 0 1 2 3", "open 0 01 2", "width 0", "width 0 1 2", "width 0 -1", "width 0 9999999999", "clear 1 ", "clear  1", "clear\u00a01")


def said_by(steps):
    """The words of steps by person."""
    return " ".join([{None: "-", "stand": "s"}.get(step, str(step)) for step in steps]) or "-"


def line_of(row):
    """The line of a row of news."""
    if row[0] in ("told", "beat"):
        return " ".join(["tell" if row[0] == "told" else "go"] + ([said_by(row[1])] if row[1] else []))
    return " ".join(map(str, row))


class Refusing(Case):
    def test_new(self):
        for value, at in NO_HOUSES:
            self.told(BadHouse, at, Desk, value, None)
        self.refuses(Refused, Desk, (HOUSE, 0), 1, STRANGE + (60, -1, (0,), "9"))
        desk = Desk(end=8, house=listed(HOUSE))
        self.assertIsInstance(desk.world, World)
        self.assertTrue(same(desk.world.book.state, (0, 8, HOUSE, (), ())))

    def test_no_lines(self):
        for lines in ((), ("found 0 0",), ("found 0 0", "found 1 3", "tell s s")):
            desk = Desk(HOUSE, 8)
            for line in lines:
                desk.say(line=line)
            before = told_of(desk.world.book)
            for line in NO_LINES:
                self.told(BadText, 0, desk.say, line)
            self.assertTrue(same(told_of(desk.world.book), before))

    def test_numbers_of_nine_figures(self):
        desk = Desk(HOUSE, 8)
        desk.say("found 0 0")
        before = told_of(desk.world.book)
        for word, many in NEWS.items():
            for at in range(many):
                for number in ("999999999", "100000000", "60"):
                    words = ["0"] * many
                    words[at] = number
                    self.assertEqual(desk.say(" ".join([word] + words)), "refused")
                    self.told(BadText, 0, desk.say, " ".join([word] + words).replace(number, "9" * 10))
        for line in ("tell 999999999", "go 999999999", "tell 60", "go 59"):
            self.assertEqual(desk.say(line), "refused")
        self.assertTrue(same(told_of(desk.world.book), before))

    def test_refused_lines(self):
        for lines, refused in (
                ((), ("found 2 0", "found 3 0", "found 0 10", "smoke 2 5", "smoke 0 9", "clear 1", "clear 2", "shut 3 0 0", "shut 0 5 4",
                      "shut 0 0 9", "open 0 3 9", "width 3 0", "width 0 10", "tell -", "tell s", "go -", "go s 0", "tell " + "s " * 60 + "s")),
                (("found 0 0", "found 0 1"), ("tell s", "tell s s s", "tell 0 0", "tell 1 s", "tell 3 s", "go - s", "go - -", "go s", "go 0 0", "go 1 s",
                                              "smoke 0 9", "found 20 0", "go s s s")),
                (("found 0 0", "go 2"), ("tell s", "tell 0", "go s", "go 0")),
                (("found 0 0", "tell 0", "shut 0 0 0"), ("go",)),
                (("found 0 0",) + ("go",) * 8, ("go", "go s", "go -", "smoke 1 7"))):
            desk = Desk(HOUSE, 8)
            for line in lines:
                self.assertNotEqual(desk.say(line), "refused")
            before = told_of(desk.world.book)
            for line in refused:
                self.assertEqual(desk.say(line), "refused", line)
                self.assertTrue(same(told_of(desk.world.book), before))


class Lines(Case):
    """[81]."""

    def said(self, desk, rows):
        for line, answer in rows:
            self.assertTrue(same(desk.say(line), answer), (line, answer))

    def test_with_nobody_found(self):
        desk = Desk(HOUSE, 2)
        self.said(desk, (("tell", "told -"), ("best", "0 0 0"), ("lot", "-"), ("steps", "-"), ("turned", "0"), ("now", "0"), ("go", "beat 1"),
                         ("tell -", "refused"), ("go -", "refused"), ("best", "0 0"), ("go", "beat 2"), ("go", "refused"), ("tell", "told -"),
                         ("best", "0"), ("now", "2"), ("fold", "ok"), ("again", "ok"), ("house", text_by_hand(HOUSE)),
                         ("draw", "beat 2 of 2\n0 . - - 0\n1 . - - 0\n2 > - - 0\n0 0>1 1 1 open\n1 1>2 1 1 open\n2 0>2 4 1 open\ntold -")))

    def test_news(self):
        desk = Desk(HOUSE, 8)
        self.said(desk, (("found 0 9", "person 0"), ("found 1 0", "person 1"), ("found 1 0", "person 2"), ("smoke 1 7", "ok"), ("clear 0", "ok"),
                         ("shut 0 2 8", "ok"), ("open 1 3 3", "ok"), ("width 2 9", "ok"), ("width 0 0", "ok"),
                         ("house", "rooms ..>\npassage 0 1 1 0 2,3,4,5,6,7,8\npassage 1 2 1 1 4\npassage 0 2 4 9 -\nsmoke 1 7")))
        rows = [("found", 0, 9), ("found", 1, 0), ("found", 1, 0), ("smoke", 1, 7), ("clear", 0), ("shut", 0, 2, 8), ("open", 1, 3, 3), ("width", 2, 9),
                ("width", 0, 0)]
        self.assertEqual(desk.world.book.state, state_of(HOUSE, 8, rows))
        self.assertEqual(desk.world.book.journal.told[1:], tuple(rows))

    def test_folded_and_opened_anew(self):
        desk = Desk(HOUSE, 8)
        self.said(desk, (("found 0 9", "person 0"), ("fold", "ok")))
        journal, book = desk.world.book.journal, desk.world.book
        self.assertEqual((journal.page, journal.term, journal.told), (1, 1, (("fold", book.state),)))
        self.said(desk, (("again", "ok"), ("found 0 1", "person 1"), ("fold", "ok")))
        self.assertIsNot(desk.world.book, book)
        self.assertEqual((desk.world.book.journal.page, desk.world.book.journal.term), (0, 2))
        self.assertEqual((len(book.state[3]), len(desk.world.book.state[3])), (1, 2))

    def test_sixty_are_found(self):
        desk = Desk(HOUSE, 8)
        for at in range(60):
            self.assertEqual(desk.say("found 1 3"), f"person {at}")
        self.assertEqual(desk.say("found 1 3"), "refused")
        self.assertEqual(desk.say("tell" + " s" * 60), "told" + " s" * 60)
        self.assertEqual(desk.say("go 1" + " s" * 59), "beat 1")

    def test_steps(self):
        desk = Desk(HOUSE, 8)
        self.said(desk, (("found 0 2", "person 0"), ("found 0 0", "person 1"), ("turned", "0"), ("lot", "0 1")))
        self.said(desk, (("tell s -", "told s -"), ("tell s 0", "told s 0"), ("tell 2 0", "told 2 0"), ("tell - -", "told - -"), ("go 0 s", "beat 1"),
                         ("tell 1 0", "told 1 0"), ("go", "beat 2"), ("tell - s", "told - s"), ("go", "beat 3"), ("lot", "1"), ("go - s", "beat 4"),
                         ("tell - -", "told - -"), ("go", "beat 5")))

    def test_who_was_told_nothing_stands(self):
        desk = Desk(HOUSE, 8)
        self.said(desk, (("found 0 2", "person 0"), ("found 1 0", "person 1"), ("tell - 1", "told - 1"), ("go", "beat 1"),
                         ("draw", "beat 1 of 8\n0 . 2 - 0\n1 . - - 0\n2 > 0 - 0\n0 0>1 1 1 open\n1 1>2 1 1 open\n2 0>2 4 1 open\ntold - -")))

    def test_beside_what_is_meant(self):
        draw = random.Random(251)
        counts = {}
        for _ in range(50):
            house, end = draw_house(draw, rooms=5, passages=8, beats=10, width=3), draw.choice((3, 8, 12))
            desk, book, rows = Desk(house, end), PlainBook(house, end), []
            for _ in range(60):
                what = draw.choice(("news", "news", "news", "tell", "go", "fold", "again", "draw", "house", "now", "best", "lot", "steps", "turned"))
                answer = self.say(draw, what, desk, book, rows)
                counts[what, answer == "refused"] = counts.get((what, answer == "refused"), 0) + 1
                self.assertEqual(desk.world.book.state, book.state())
            self.assertEqual(desk.world.book.state, state_of(house, end, rows))
        self.assertTrue(len(counts) >= 14 and min(counts.values()) > 20, counts)

    def say(self, draw, what, desk, book, rows):
        """One line said, and what there is to say, by a plain book and by what is meant by its state."""
        state = book.state()
        row, line = None, what
        if what == "news":
            row = draw_news(draw, book, 0.1)
            line = line_of(row)
        elif what == "tell":
            row = ("told", steps_now(state))
        elif what == "go":
            row = ("beat", tuple([("stand" if step is None else step) if at in book.in_rooms() else None for at, step in enumerate(book.steps)]))
        if row is not None:
            if row[0] in ("told", "beat") and what == "news" and not row[1]:
                return None
            told = book.why_not(row) is None
            if told:
                book.tell(row)
                rows.append(row)
            after = {"found": f"person {len(book.words) - 1}", "told": "told " + said_by(book.steps), "beat": f"beat {book.now}"}
            answer = after.get(row[0], "ok") if told else "refused"
        else:
            answer = {"fold": lambda: "ok", "again": lambda: "ok", "draw": lambda: drawn_by_hand(state), "house": lambda: text_by_hand(state[2]),
                      "now": lambda: str(state[0]), "best": lambda: " ".join(map(str, best_now(state))), "turned": lambda: str(turned_now(state)),
                      "lot": lambda: " ".join(map(str, lot_now(state))) or "-", "steps": lambda: said_by(steps_now(state))}[what]()
        self.assertTrue(same(desk.say(line), answer), (line, answer))
        return answer

    def test_folded_or_opened_anew_in_between(self):
        draw = random.Random(252)
        for _ in range(15):
            house, end = draw_house(draw, rooms=5, passages=8, beats=10, width=3), 8
            book, plain, other = PlainBook(house, end), Desk(house, end), Desk(house, end)
            for _ in range(30):
                row = draw_news(draw, book, 0)
                if book.why_not(row) is None and (row[0] not in ("told", "beat") or row[1]):
                    book.tell(row)
                    self.assertEqual(plain.say(line_of(row)), other.say(line_of(row)))
                    self.assertEqual(other.say(draw.choice(("fold", "again"))), "ok")
                    for line in ASKED[2:]:
                        self.assertEqual(plain.say(line), other.say(line))

    def test_great(self):
        house = great_task(253)[0]
        desk = Desk(house, 30)
        began = time.monotonic()
        for at in range(20):
            self.assertEqual(desk.say(f"found {at % 18} {at % 10}"), f"person {at}")
        for at in range(5):
            for line in ("tell", "go", "best", "lot", "steps", "turned", "draw", "again"):
                self.assertNotEqual(desk.say(line), "refused")
        self.assertLess(time.monotonic() - began, 20)


if __name__ == "__main__":
    unittest.main()
