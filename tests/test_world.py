"""A world, and the main sentence over the whole program: [76], [77]."""

import random
import time
import unittest

from outsoonest.book import Book, fold_length, open_book, plain_book
from outsoonest.cuts import cut_at
from outsoonest.errors import BadHouse, BadRow, NotLet, Refused
from outsoonest.meaning import best_now, falls, lot_now, meaning, steps_now, turned_now
from outsoonest.state import follow, start, state_of, task_of
from outsoonest.ways import plan
from outsoonest.world import World
from tests.books import PlainBook, draw_news, draw_steps
from tests.draws import draw_house, great_task, lets_out, out_beats, out_numbers
from tests.helping import STRANGE, Case, listed, mixed, same
from tests.pages import octets_of
from tests.test_book import told_of
from tests.test_crowds import NO_HOUSES
from tests.test_meaning import FOUR, HOUSE, ROWS, Meant
from tests.test_news import NO_STEPS


def world_of(rows, house=HOUSE, end=6):
    world = World(house, end)
    for row in rows:
        world.hear(row)
    return world


class Refusing(Case):
    def same_behind(self, world, error, held, call, *args):
        before, book = told_of(world.book), world.book
        self.told(error, held, call, *args)
        self.assertTrue(same(told_of(world.book), before) and world.book is book)

    def test_new(self):
        for value, at in NO_HOUSES:
            self.told(BadHouse, at, World, value, None)
        self.refuses(Refused, World, (HOUSE, 0), 1, STRANGE + (60, -1, (0,), "9"))
        world = World(end=6, house=listed(HOUSE))
        self.assertIsInstance(world.book, Book)
        self.assertTrue(same(world.book.state, start(HOUSE, 6)))

    def test_rows(self):
        world = world_of([("found", 0, 0), ("found", 0, 0), ("found", 1, 0)])
        for value, at in (((), 0), (None, 0), (True, 0), (("house", HOUSE, 6), 0), (("found", True, 0), 1), (("shut", 0, 0, 60), 3), (world, 0)):
            self.same_behind(world, BadRow, at, world.hear, value)
        for row, word in ((("found", 2, 0), "room"), (("width", 3, 0), "passage"), (("smoke", 0, 7), "beat"), (["told", ["stand"]], "person"),
                          (("beat", (None,) * 3), "step"), (("told", (0, 0, 1)), "width")):
            self.same_behind(world, NotLet, word, world.hear, row)

    def test_steps(self):
        world = world_of([("found", 0, 0), ("found", 0, 0), ("found", 1, 0)])
        for value in [value for value in NO_STEPS if value is not None] + [value for value in STRANGE if value not in ((), [], None)]:
            self.same_behind(world, BadRow, 1, world.go, value)
        for steps, word in (((), "person"), (("stand",) * 2, "person"), ((0, None, 1), "step"), ((0, 1, 1), "step"), ((0, 59, 1), "passage"),
                            ((0, 0, 1), "width")):
            self.same_behind(world, NotLet, word, world.go, steps)
        # What they were told cannot be done any more; there is no next beat.
        world.hear(("told", (0, "stand", 1)))
        world.hear(("shut", 0, 0, 3))
        self.same_behind(world, NotLet, "step", world.go)
        world.hear(("open", 0, 0, 3))
        world.hear(("width", 1, 0))
        self.same_behind(world, NotLet, "width", world.go)
        last = world_of([("found", 0, 0)], end=0)
        self.same_behind(last, NotLet, "beat", last.go)
        self.same_behind(last, NotLet, "beat", last.go, ("stand",))


class Worlds(Case):
    """[76]."""

    def test_four(self):
        world = World(FOUR, 6)
        self.assertEqual([world.hear(row=row) for row in ROWS], [2, 3, 4, 5])
        state = world.book.state
        steps = world.tell()
        self.assertTrue(same(steps, steps_now(state)))
        self.assertEqual(world.book.state, follow(state, ("told", steps)))
        self.assertEqual(world.book.journal.told[-1], ("told", steps))
        self.assertEqual(world.hear(("smoke", 0, 3)), 7)
        self.assertEqual(best_now(world.book.state), (0, 0, 1, 2, 3, 4, 4))

    def test_go(self):
        for other in (tuple, listed, mixed):
            world = world_of([("found", 0, 0), ("found", 1, 1)])
            state = world.book.state
            self.assertTrue(same(world.go(steps=other((0, "stand"))), (0, "stand")))
            self.assertEqual(world.book.state, follow(state, ("beat", (0, "stand"))))
            self.assertTrue(same(world.go(other([1, "stand"])), (1, "stand")))
            # One is out; without steps and with nothing told those in rooms stand.
            self.assertTrue(same(world.go(), (None, "stand")))
            self.assertTrue(same(world.go(None), (None, "stand")))
            world.hear(("told", (None, 1)))
            self.assertTrue(same(world.go(), (None, 1)))
            self.assertEqual(world.book.state[3], (("out", 2, 2, 0), ("out", 2, 5, 1)))
            self.assertTrue(same(world.came_out(), (0, 0, 1, 1, 1, 2)))
            self.assertTrue(same(world.go(), (None, None)))
            self.assertEqual(world.came_out(), (0, 0, 1, 1, 1, 2, 2))

    def test_nobody(self):
        world = World(HOUSE, 2)
        self.assertEqual((world.came_out(), world.tell(), world.go(), world.go(()), world.tell(), world.came_out()),
                         ((0,), (), (), (), (), (0, 0, 0)))
        self.told(NotLet, "beat", world.go)

    def test_at_the_last_beat_nobody_is_told(self):
        world = world_of([("found", 0, 0), ("found", 1, 0)], end=1)
        world.tell()
        self.assertEqual(world.go(), ("stand", 1))
        self.assertEqual((world.tell(), world.came_out()), ((None, None), (0, 1)))

    def test_told_some_of_them(self):
        world = world_of([("found", 0, 0), ("found", 0, 1), ("found", 1, 1), ("told", (0, None, "stand"))])
        self.assertEqual(world.go(), (0, "stand", "stand"))
        # Told anew only what is told behind the beat.
        self.assertEqual(world.go(), ("stand", "stand", "stand"))

    def test_reopen(self):
        world = world_of(ROWS, FOUR)
        world.tell()
        before, book = told_of(world.book), world.book
        self.assertIsNone(world.reopen())
        self.assertTrue(same(told_of(world.book), before) and world.book is not book)
        world.book.fold()
        world.go()
        world.reopen()
        self.assertEqual(world.book.state[0], 1)
        self.assertEqual(world.book.state, open_book(world.book.both_pages()).state)
        self.assertEqual(world.came_out(), (0, 0))


class Main(Case):
    """[77], each of its parts, over worlds that are led by news of all words."""

    def test_led(self):
        draw = random.Random(231)
        self.counts = {}
        for _ in range(120):
            house, end = draw_house(draw, rooms=4, passages=6, beats=6), draw.choice((3, 4, 5))
            world, book, rows = World(house, end), PlainBook(house, end), []
            for at in range(26):
                self.do(draw, draw.choice(("hear", "hear", "hear", "tell", "go", "stray", "fold", "cut", "torn", "reopen")) if at > 3 else "found",
                        world, book, rows)
                self.assertEqual(world.book.state, book.state())
            self.assertEqual(world.book.state, state_of(house, end, rows))
            self.assertTrue(same(meaning(house, end, rows), (world.book.state, best_now(world.book.state), lot_now(world.book.state))))
        for word in ("found", "smoke", "clear", "shut", "open", "width", "told", "beat", "fold", "cut", "torn", "tell", "go", "stray"):
            self.assertGreater(self.counts.get(word, 0), 15, self.counts)
        for word in ("turned", "lost", "taken", "judged"):
            self.assertGreater(self.counts.get(word, 0), 3, self.counts)

    def count(self, word, many=1):
        self.counts[word] = self.counts.get(word, 0) + many

    def tell_book(self, book, rows, row):
        book.tell(row)
        rows.append(row)
        self.count(row[0])

    def do(self, draw, what, world, book, rows):
        """One thing done in a world, and in a plain book beside it; what it means is judged."""
        state = world.book.state
        if what in ("found", "hear", "torn"):
            inside = [room for room, kind in enumerate(book.rooms) if kind == 0]
            row = ("found", draw.choice(inside), draw.randrange(5)) if what == "found" and inside else draw_news(draw, book, 0.05)
            if book.why_not(row) is not None or row[0] == "found" and len(book.words) > 3:
                return
            if what == "torn":
                # Amid the row the power is cut: the row is gone, and the state is the one ahead.
                self.count("torn")
                self.assertIs(world.book.tell_cut(row, draw.randrange(len(octets_of(row)))), False)
                self.assertEqual(world.book.state, state)
                return
            world.hear(row)
            self.tell_book(book, rows, row)
            self.count("taken", best_now(state)[-1] > best_now(world.book.state)[-1])
            self.judged(world.book.state)
        elif what == "tell":
            self.count("tell")
            steps = world.tell()
            self.assertEqual(steps, steps_now(state))
            self.tell_book(book, rows, ("told", steps))
            self.assertEqual(turned_now(world.book.state), 0)
            self.judged(world.book.state)
        elif what in ("go", "stray"):
            self.go(draw, what, world, book, rows)
        elif what in ("fold", "cut"):
            self.count(what)
            if what == "fold":
                world.book.fold()
            else:
                world.book.fold_cut(draw.randrange(fold_length(world.book)))
            self.assertEqual(plain_book(world.book.both_pages()), state)
        else:
            world.reopen()

    def go(self, draw, what, world, book, rows):
        """A beat goes by, as they were told or otherwise; what is lost is what `falls` tells."""
        state = world.book.state
        if state[0] == state[1]:
            return
        steps = draw_steps(draw, book, 0) if what == "stray" else tuple(
            [("stand" if step is None else step) if at in book.in_rooms() else None for at, step in enumerate(book.steps)])
        if book.why_not(("beat", steps)) is not None:
            return
        told = falls(state, steps)
        self.assertEqual(world.go(steps) if what == "stray" else world.go(), steps)
        self.tell_book(book, rows, ("beat", steps))
        self.count(what)
        self.assertEqual(told, tuple([a - b for a, b in zip(best_now(state)[1:], best_now(world.book.state))]))
        self.assertGreaterEqual(min(told), 0)
        self.count("lost", sum(told))
        self.judged(world.book.state)

    def judged(self, state):
        """(1) to (4): beside all runs from where everybody is."""
        meant = Meant(state, 1500)
        if meant.runs is None:
            return
        self.count("judged")
        task = meant.task
        out = len([1 for person in state[3] if person[0] == "out"])
        best = best_now(state)
        # (1): one run has so many by every beat, and by each a cut lets out no more.
        self.assertEqual(best, meant.best)
        self.assertTrue([run for run in meant.runs if tuple([out + many for many in out_numbers(task, run)]) == best])
        for beat in range(task[2], task[3] + 1):
            self.assertEqual(out + lets_out(task, beat, cut_at(task, beat)), best[beat - task[2]])
        # (2), (3): the first lot is as many as any run saves, and one plan has both.
        lot, run = plan(task)
        self.assertEqual(tuple([meant.persons[at] for at in lot]), lot_now(state))
        self.assertEqual((lot_now(state), out + len(lot)), (meant.lot, best[-1]))
        self.assertIn(run, meant.plans)
        self.assertEqual(tuple([at for at, when in enumerate(out_beats(task, run)) if when is not None]), lot)
        # (4): of the steps told to those saved as few as can be are turned.
        fewest = min([meant.turned_by(meant.steps_of(run)) for run in meant.plans])
        self.assertEqual((turned_now(state), meant.turned_by(steps_now(state))), (fewest, fewest))
        self.count("turned", fewest)

    def test_all_do_what_they_are_told(self):
        """(5): then just `best_now` of the beginning comes about, behind any news; folded, cut and opened in between."""
        draw = random.Random(232)
        out = 0
        for _ in range(60):
            house, end = draw_house(draw, rooms=6, passages=10, beats=9, width=3), draw.choice((6, 9, 12))
            world, book = World(house, end), PlainBook(house, end)
            for _ in range(draw.randint(6, 25)):
                row = draw_news(draw, book, 0)
                if book.why_not(row) is None:
                    world.hear(row)
                    book.tell(row)
            now, best, lot = world.book.state[0], best_now(world.book.state), lot_now(world.book.state)
            for beat in range(now, end):
                steps = world.tell()
                self.assertEqual(falls(world.book.state, steps), (0,) * (end - beat))
                draw.choice((world.reopen, world.book.fold, lambda: world.book.fold_cut(0), lambda: world.book.tell_cut(("told", steps), 0)))()
                self.assertEqual(world.go(), steps)
                self.assertEqual(best_now(world.book.state), best[beat + 1 - now:])
                gone = [at for at, person in enumerate(world.book.state[3]) if person[0] == "out"]
                self.assertTrue(set(lot) <= set(gone) | set(lot_now(world.book.state)))
            self.assertEqual(world.came_out()[now:], best)
            out += best[-1]
        self.assertGreater(out, 40)

    def test_the_book_cut_anywhere(self):
        """(6): the octets of the book, cut anywhere, tell the state of the rows that stand, so their plan."""
        draw = random.Random(233)
        for _ in range(4):
            house, end = draw_house(draw, rooms=4, passages=5, beats=6), 5
            world, book, states = World(house, end), PlainBook(house, end), [start(house, end)]
            places = [len(world.book.both_pages()[0])]
            while len(states) < 14:
                row = draw_news(draw, book, 0)
                if book.why_not(row) is None:
                    world.hear(row)
                    book.tell(row)
                    states.append(book.state())
                    places.append(len(world.book.both_pages()[0]))
            octets = world.book.both_pages()[0]
            for cut in range(places[0], len(octets) + 1):
                state = states[len([place for place in places if place <= cut]) - 1]
                self.assertEqual(open_book((octets[:cut], ())).state, state)
            self.assertEqual((best_now(state), lot_now(state), steps_now(state)),
                             (best_now(world.book.state), lot_now(world.book.state), steps_now(world.book.state)))

    def test_great(self):
        draw = random.Random(234)
        house, _, _, _ = great_task(235)
        world, book = World(house, 30), PlainBook(house, 30)
        for _ in range(20):
            row = ("found", draw.randrange(18), draw.randrange(10))
            world.hear(row)
            book.tell(row)
        began = time.monotonic()
        rows = 20
        while rows < 200:
            row = draw_news(draw, book, 0)
            if row[0] in ("found", "told", "beat"):
                if rows > 6 * book.now + 20 and book.now < 30:
                    world.tell()
                    row = ("beat", world.go())
                    rows += 2
                    book.tell(row)
                    self.assertEqual(world.book.state, book.state())
            elif book.why_not(row) is None:
                world.hear(row)
                book.tell(row)
                rows += 1
        world.reopen()
        self.assertEqual(world.book.state, book.state())
        self.assertEqual(world.came_out()[-1], len([1 for person in book.state()[3] if person[0] == "out"]))
        self.assertEqual(task_of(world.book.state)[1][2], book.now)
        self.assertGreater(book.now, 20)
        self.assertLess(time.monotonic() - began, 20)


if __name__ == "__main__":
    unittest.main()
