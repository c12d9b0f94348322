"""States behind rows of news: [46], [47], [48]."""

import random
import time
import unittest

from outsoonest.errors import BadHouse, BadRow, NotLet, Refused
from outsoonest.state import follow, out_till, start, state_of, steps_told, task_of, with_word
from outsoonest.turned import check_told
from outsoonest.unrolled import check_task
from tests.books import PlainBook, draw_news
from tests.draws import draw_house, great_task
from tests.helping import STRANGE, Case
from tests.test_crowds import NO_HOUSES
from tests.test_news import ROWS

HOUSE = ((0, 0, 1), ((0, 1, 1, 1, ()), (1, 2, 2, 2, (0,)), (0, 2, 4, 1, ())), (None, None, None))


def behind(rows, house=HOUSE, end=9):
    return state_of(house, end, rows)


class Refusing(Case):
    def test_start(self):
        for value, at in NO_HOUSES:
            self.told(BadHouse, at, start, value, None)
            self.told(BadHouse, at, state_of, value, None, ())
        self.refuses(Refused, start, (HOUSE, 0), 1, STRANGE + (60, -1, (0,), "9"))
        self.refuses(Refused, state_of, (HOUSE, 0, (("found", 2, 0),)), 1, STRANGE + (60, -1, (0,), "9"))
        for end in (0, 9, 59):
            self.gives((0, end, HOUSE, (), ()), start, HOUSE, end)

    def test_rows(self):
        state = behind([("found", 0, 1)])
        for value, at in ((None, 0), (True, 0), ("beat", 0), ((), 0), (("found", 0), 0), (("found", 20, 10), 1), (("found", 0, 10), 2),
                          (("beat", None), 1), (("told", ("stay",)), 1), (("beat", (True,)), 1), (("shut", 0, 0, 60), 3), (state, 0)):
            self.told(BadRow, at, follow, state, value)
            self.told(Refused, 1, state_of, HOUSE, 9, [("found", 0, 1), value, value])

    def test_state_of(self):
        self.told(Refused, 0, state_of, HOUSE, 9, [("found", 2, 0)])
        self.told(Refused, 2, state_of, HOUSE, 9, [("found", 0, 0), ("beat", (0,)), ("clear", 0), ("clear", 0)])
        self.told(Refused, 1, state_of, HOUSE, 0, (("found", 0, 0), ("beat", (0,))))
        self.gives((0, 9, HOUSE, (), ()), state_of, HOUSE, 9, ())

    def test_out_till(self):
        state = behind([("found", 0, 0), ("beat", ("stand",)), ("beat", ("stand",))])
        self.refuses(Refused, out_till, (state, 0), 1, STRANGE + (3, 9, 59, (0,), "1"))
        for beat in range(3):
            self.gives(0, out_till, state, beat)


class NotLetWords(Case):
    """[47], why rows cannot be."""

    def bad(self, word, state, row):
        self.told(NotLet, word, follow, state, row)
        self.told(NotLet, word, follow, list(state), list(row))

    def test_rooms_and_passages(self):
        state = behind([])
        for row in (("found", 2, 0), ("found", 3, 0), ("smoke", 2, 1), ("smoke", 19, 1), ("clear", 2), ("clear", 3)):
            self.bad("room", state, row)
        for row in (("shut", 3, 1, 2), ("open", 3, 1, 2), ("width", 3, 1), ("shut", 59, 5, 0), ("width", 59, 9)):
            self.bad("passage", state, row)

    def test_beats(self):
        state = behind([("beat", ())] * 3)
        for row in (("smoke", 0, 2), ("smoke", 0, 10), ("shut", 0, 2, 5), ("shut", 0, 5, 4), ("shut", 0, 3, 10), ("open", 0, 0, 9),
                    ("open", 0, 9, 3), ("open", 1, 9, 59)):
            self.bad("beat", state, row)
        for row in (("smoke", 0, 3), ("smoke", 0, 9), ("shut", 0, 3, 9), ("open", 0, 9, 9), ("open", 0, 3, 3)):
            self.assertEqual(follow(state, row)[0], 3)
        last = behind([("beat", ())] * 9)
        self.assertEqual(last[:2], (9, 9))
        self.bad("beat", last, ("beat", ()))
        self.bad("beat", behind([("found", 0, 0)], end=0), ("beat", (None, None)))
        self.assertEqual(follow(last, ("smoke", 0, 9))[2][2], (9, None, None))

    def test_smoke(self):
        state = behind([("smoke", 0, 0), ("smoke", 1, 3)])
        for row in (("found", 0, 0), ("smoke", 0, 5), ("smoke", 0, 0)):
            self.bad("smoke", state, row)
        self.assertEqual(follow(state, ("found", 1, 0))[3], (("here", 1, 0, 0),))
        self.assertEqual(follow(state, ("smoke", 1, 9))[2][2], (0, 9, None))
        cleared = follow(follow(state, ("clear", 0)), ("clear", 1))
        self.assertEqual(cleared[2], HOUSE)
        self.bad("smoke", cleared, ("clear", 0))
        self.bad("smoke", follow(state, ("clear", 1)), ("clear", 1))
        later = behind([("smoke", 1, 1), ("beat", ())])
        self.bad("smoke", later, ("found", 1, 0))
        self.bad("smoke", later, ("smoke", 1, 1))

    def test_persons(self):
        state = behind([("found", 0, 0)] * 60)
        self.bad("person", state, ("found", 0, 0))
        self.bad("smoke", behind([("found", 0, 0)] * 60 + [("smoke", 1, 0)]), ("found", 1, 0))
        for word in ("told", "beat"):
            self.bad("person", behind([("found", 0, 0)] * 2), (word, ("stand",)))
            self.bad("person", behind([("found", 0, 0)] * 2), (word, (None, 59, 59)))
            self.bad("person", behind([]), (word, (None,)))
            self.bad("person", state, (word, (59,) * 59))

    def test_steps(self):
        # Person 0 in room 0, person 1 within a passage, person 2 out, person 3 lost.
        rows = [("found", 0, 0), ("found", 0, 0), ("found", 1, 0), ("found", 1, 0), ("open", 1, 0, 9), ("beat", ("stand", 2, 1, "stand")),
                ("smoke", 1, 1), ("clear", 1), ("beat", ("stand", None, None, None))]
        state = behind(rows)
        self.assertEqual([person[0] for person in state[3]], ["here", "here", "out", "lost"])
        for word in ("told", "beat"):
            for person in (1, 2, 3):
                for step in ("stand", 0, 59):
                    steps = ["stand", None, None, None]
                    steps[person] = step
                    self.bad("step", state, (word, steps))
            for step, told in ((1, "step"), (3, "passage"), (59, "passage")):
                self.bad(told, state, (word, (step, None, None, None)))
            for step in ("stand", 0, 2):
                self.assertEqual(len(follow(state, (word, (step, None, None, None)))[3]), 4)
        self.bad("step", state, ("beat", (None,) * 4))
        self.assertEqual(follow(state, ("told", (None,) * 4))[4], (None,) * 4)
        shut = follow(state, ("shut", 0, 2, 2))
        for word in ("told", "beat"):
            self.bad("step", shut, (word, (0, None, None, None)))
        self.assertEqual(follow(follow(state, ("shut", 0, 3, 9)), ("beat", (0,) + (None,) * 3))[3][0], ("here", 1, 3, 0))

    def test_widths(self):
        state = behind([("found", 0, 0), ("found", 0, 0), ("found", 1, 0)])
        for word in ("told", "beat"):
            self.bad("width", state, (word, (0, 0, "stand")))
            self.bad("width", follow(state, ("width", 0, 0)), (word, (0, "stand", "stand")))
            self.assertEqual(follow(state, (word, (0, 2, "stand")))[2], HOUSE)
            self.assertEqual(follow(follow(state, ("width", 0, 2)), (word, (0, 0, "stand")))[2][1][0][3], 2)

    def test_which_is_told_first(self):
        state = behind([("found", 0, 0), ("found", 0, 0), ("smoke", 1, 0)], end=0)
        for row, word in ((("smoke", 2, 9), "room"), (("smoke", 1, 9), "beat"), (("shut", 9, 9, 3), "passage"),
                          (("beat", (1,)), "beat"), (("told", (0,)), "person"), (("told", (0, 9)), "passage"), (("told", (1, 9)), "step"),
                          (("told", (9, 1)), "passage"), (("told", (0, 1)), "step"), (("told", (0, 0)), "width"), (("found", 1, 0), "smoke")):
            self.bad(word, state, row)
        # By person, whatever it is; the width at last.
        state = behind([("found", 0, 0)] * 4)
        for steps, word in (((0, 0, None, 1), "step"), ((0, 0, 3, 1), "passage"), ((0, 0, 0, 59), "passage"), ((0, 0, 1, 59), "step"),
                            ((0, 0, 2, 2), "width"), ((None, 59, 0, 0), "step"), ((59, None, 0, 0), "passage")):
            self.bad(word, state, ("beat", steps))


class Following(Case):
    """[46], [47]: what is so behind rows."""

    def test_example(self):
        rows = [("found", 0, 1), ("found", 1, 0), ("told", (0, "stand")), ("beat", (0, "stand")), ("smoke", 0, 3)]
        told = (1, 9, ((0, 0, 1), HOUSE[1], (3, None, None)), (("here", 1, 1, 1), ("here", 1, 1, 0)), (None, None))
        self.gives(told, state_of, HOUSE, 9, rows)
        self.gives((2, 9, told[2], (("here", 2, 3, 1), ("here", 1, 2, 0)), (None, None)), follow, told, ("beat", (1, "stand")))

    def test_each_word(self):
        state = behind([("found", 0, 1)])
        self.gives((0, 9, HOUSE, (("here", 0, 0, 1), ("here", 1, 0, 9)), (None, None)), follow, state, ("found", 1, 9))
        for row, part, at in ((("smoke", 1, 4), (None, 4, None), 2), (("smoke", 0, 9), (9, None, None), 2)):
            self.gives(state[:2] + (HOUSE[:at] + (part,),) + state[3:], follow, state, row)
        for row, at, passage in ((("shut", 0, 2, 4), 0, (0, 1, 1, 1, (2, 3, 4))), (("shut", 1, 0, 1), 1, (1, 2, 2, 2, (0, 1))),
                                 (("open", 1, 0, 9), 1, (1, 2, 2, 2, ())), (("open", 0, 0, 0), 0, HOUSE[1][0]),
                                 (("width", 2, 0), 2, (0, 2, 4, 0, ())), (("width", 2, 9), 2, (0, 2, 4, 9, ()))):
            passages = list(HOUSE[1])
            passages[at] = passage
            self.gives(state[:2] + ((HOUSE[0], tuple(passages), HOUSE[2]),) + state[3:], follow, state, row)
        self.gives(state[:4] + ((0,),), follow, state, ("told", (0,)))
        self.gives((1, 9, HOUSE, (("here", 0, 1, 1),), (None,)), follow, state, ("beat", ("stand",)))
        self.gives((1, 9, HOUSE, (("here", 2, 4, 1),), (None,)), follow, state, ("beat", (2,)))

    def test_told_steps_last_till_the_next_told_or_beat(self):
        rows = [("found", 0, 0), ("found", 0, 0), ("told", ("stand", 0))]
        self.gives(("stand", 0), steps_told, behind(rows))
        rows += [("found", 1, 0), ("shut", 0, 0, 9), ("width", 1, 0), ("smoke", 1, 9), ("clear", 1)]
        self.gives(("stand", 0, None), steps_told, behind(rows))
        self.gives((None, 2, None), steps_told, behind(rows + [("told", (None, 2, None))]))
        self.gives((None,) * 3, steps_told, behind(rows + [("beat", ("stand",) * 3)]))
        # The lost are told nothing, and have nothing told any more.
        for more in ([("smoke", 0, 0)], [("smoke", 0, 0), ("clear", 0)]):
            self.assertEqual(behind(rows + more)[4], (None, None, None))
            self.gives((None,), steps_told, behind(rows + more))

    def test_told_steps_are_those_of_the_persons_of_the_task(self):
        house = ((0, 0, 1), ((0, 2, 1, 1, ()), (0, 1, 1, 1, ()), (1, 2, 3, 2, ())), (None, None, None))
        rows = [("found", 0, 1), ("found", 0, 2), ("found", 1, 0), ("beat", (0, "stand", "stand")), ("told", (None, 1, "stand"))]
        self.gives((1, "stand"), steps_told, behind(rows, house, 5))
        # Somebody is lost; somebody comes behind the end, and at the end; nobody is left; nobody was found.
        self.gives((2,), steps_told, behind([("found", 0, 1), ("found", 1, 2), ("told", (0, 2)), ("smoke", 0, 0)], house, 5))
        rows = [("found", 1, 1), ("found", 0, 2), ("beat", (2, "stand")), ("told", (None, 0))]
        self.gives((0,), steps_told, behind(rows, house, 2))
        self.gives((None, 0), steps_told, behind(rows, house, 3))
        self.gives((), steps_told, behind([("found", 0, 1), ("beat", (0,))], house, 5))
        self.gives((), steps_told, start(house, 5))
        # They are told steps of the task.
        state = behind(rows, house, 5)
        self.assertEqual(check_told(task_of(state)[1], steps_told(state)), (None, 0))

    def test_lost(self):
        rows = [("found", 0, 3), ("found", 1, 4), ("open", 1, 0, 9)]
        # Smoke that comes now; later; at the beat at which somebody comes; ahead of it; behind it.
        self.assertEqual(behind(rows + [("smoke", 0, 0)])[3], (("lost", 0, 0, 3), ("here", 1, 0, 4)))
        self.assertEqual(behind(rows + [("smoke", 0, 1)])[3], (("here", 0, 0, 3), ("here", 1, 0, 4)))
        rows += [("smoke", 0, 1), ("beat", ("stand", "stand"))]
        self.assertEqual(behind(rows)[3], (("lost", 0, 1, 3), ("here", 1, 1, 4)))
        rows = [("found", 0, 3), ("beat", (0,))]
        self.assertEqual(behind([("smoke", 1, 1)] + rows)[3], (("lost", 1, 1, 3),))
        self.assertEqual(behind([("smoke", 1, 2)] + rows)[3], (("here", 1, 1, 3),))
        house = ((0, 0, 1), ((0, 1, 5, 1, ()), (1, 2, 1, 1, ())), (None,) * 3)
        for beat, word in ((1, "lost"), (2, "lost"), (4, "lost"), (5, "lost"), (6, "here")):
            told = behind(rows + [("smoke", 1, beat)], house)
            self.assertEqual(told[3], ((word, 1, 5, 3),))
            # For ever, though there is no smoke any more.
            self.assertEqual(behind(rows + [("smoke", 1, beat), ("clear", 1)], house)[3], ((word, 1, 5, 3),))
        # Smoke that was told ahead, where they go.
        self.assertEqual(behind([("smoke", 1, 4)] + rows, house)[3], (("lost", 1, 5, 3),))
        # Behind the end, too.
        self.assertEqual(behind([("smoke", 1, 3)] + rows, house, 3)[3], (("lost", 1, 5, 3),))

    def test_out(self):
        house = ((0, 1, 0), ((0, 1, 1, 9, ()), (0, 1, 3, 9, ()), (0, 1, 9, 9, ())), (None,) * 3)
        rows = [("found", 0, at) for at in range(4)] + [("beat", (0, 1, 2, "stand"))]
        told = behind(rows, house, 4)
        self.assertEqual(told[3], (("out", 1, 1, 0), ("here", 1, 3, 1), ("here", 1, 9, 2), ("here", 0, 1, 3)))
        rows += [("shut", 1, 1, 4), ("width", 1, 0), ("beat", (None, None, None, "stand")), ("smoke", 0, 3),
                 ("beat", (None, None, None, "stand")), ("beat", (None,) * 4)]
        told = behind(rows, house, 4)
        # Within a passage that is shut they go on; who comes behind the end stays within.
        self.assertEqual(told[3], (("out", 1, 1, 0), ("out", 1, 3, 1), ("here", 1, 9, 2), ("lost", 0, 3, 3)))
        for beat, many in enumerate((0, 1, 1, 2, 2)):
            self.gives(many, out_till, told, beat)
        for word, persons in (("out", (0, 1)), ("here", (2,)), ("lost", (3,)), ("nowhere", ()), ("", ())):
            self.gives(persons, with_word, told, word)
        self.gives(((), (told[2], (), 4, 4)), task_of, told)
        # Near the greatest beat: ten beats behind it.
        far = behind([("found", 0, 0)] + [("beat", ("stand",))] * 58 + [("beat", (2,))], house, 59)
        self.assertEqual((far[0], far[3]), (59, (("here", 1, 67, 0),)))
        self.gives(((), (house, (), 59, 59)), task_of, far)

    def test_task_of(self):
        rows = [("found", 1, 4), ("found", 0, 1), ("found", 0, 2), ("found", 0, 3), ("open", 1, 0, 9),
                ("beat", (1, 0, 2, "stand")), ("smoke", 1, 1)]
        self.gives(((0, 2, 3), ((HOUSE[0], ((0, 1, 1, 1, ()), (1, 2, 2, 2, ()), (0, 2, 4, 1, ())), (None, 1, None)),
                                ((2, 2, 4), (2, 4, 2), (0, 1, 3)), 1, 9)), task_of, behind(rows))
        rows[4] = ("open", 1, 0, 3)
        self.gives((1,), with_word, behind(rows, end=3), "lost")
        self.assertEqual(task_of(behind(rows, end=3))[0], (0, 3))
        self.gives(((), (HOUSE, (), 0, 9)), task_of, start(HOUSE, 9))


class Drawn(Case):
    def test_beside_a_book(self):
        draw = random.Random(141)
        words, rows_told = {}, 0
        for _ in range(150):
            house, end = draw_house(draw, rooms=5, passages=8, beats=10, width=3), draw.choice((0, 3, 8, 12))
            book, state, rows = PlainBook(house, end), start(house, end), []
            self.assertEqual(book.state(), state)
            for _ in range(60):
                row = draw_news(draw, book)
                why = book.why_not(row)
                if why is None:
                    earlier = state
                    state = follow(state, row)
                    book.tell(row)
                    rows.append(row)
                    self.assertEqual(state, book.state())
                    self.check_words(earlier, state)
                else:
                    words[why] = words.get(why, 0) + 1
                    self.told(NotLet, why, follow, state, row)
                    self.told(Refused, len(rows), state_of, house, end, rows + [row])
            self.gives(state, state_of, house, end, tuple(rows))
            self.check_state(state)
            rows_told += len(rows)
        self.assertEqual(set(words), {"room", "passage", "beat", "smoke", "person", "step", "width"})
        self.assertGreater(rows_told, 4000)

    def check_words(self, earlier, state):
        """Who is out or lost stays so."""
        for one, other in zip(earlier[3], state[3]):
            self.assertTrue(one[0] == "here" or one == other)

    def check_state(self, state):
        now, end, house, people, steps = state
        persons, task = task_of(state)
        self.gives((persons, task), task_of, state)
        self.assertEqual(check_task(task), task)
        late = [at for at, person in enumerate(people) if person[0] == "here" and person[2] > end]
        groups = [with_word(state, "out"), with_word(state, "lost"), persons, tuple(late)]
        self.assertEqual(sorted(sum(groups, ())), list(range(len(people))))
        told = tuple([steps[person] for person in persons])
        self.gives(told, steps_told, state)
        # At the last beat a step can be told, but nobody has one.
        if now < end:
            self.assertEqual(check_told(task, told), told)
        for beat in range(now + 1):
            self.gives(len([1 for word, _, when, _ in people if word == "out" and when <= beat]), out_till, state, beat)
        if now < end:
            for person in persons:
                if people[person][2] == now:
                    told = tuple(["stand" if word == "here" and beat == now else None for word, _, beat, _ in people])
                    self.assertEqual(follow(state, ("beat", told))[3][person][2], now + 1)

    def test_rows_of_the_greatest_numbers(self):
        state = start(HOUSE, 9)
        for row in ROWS:
            book = PlainBook(HOUSE, 9)
            why = book.why_not(row)
            if why is None:
                book.tell(row)
                self.assertEqual(follow(state, row), book.state())
            else:
                self.told(NotLet, why, follow, state, row)

    def test_great(self):
        draw = random.Random(142)
        house = great_task(143)[0]
        book = PlainBook(house, 59)
        rows = [("found", draw.randrange(18), draw.randrange(10)) for _ in range(60)]
        for row in rows:
            book.tell(row)
        while len(rows) < 300:
            row = draw_news(draw, book, 0)
            if row[0] != "found" and book.why_not(row) is None and (row[0] != "beat" or len(rows) > 5 * book.now):
                book.tell(row)
                rows.append(row)
        began = time.monotonic()
        self.assertEqual(state_of(house, 59, rows), book.state())
        self.assertGreater(book.now, 30)
        self.check_state(book.state())
        self.assertLess(time.monotonic() - began, 20)


if __name__ == "__main__":
    unittest.main()
