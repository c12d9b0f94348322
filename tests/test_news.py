"""Rows of news: [45]."""

import random
import unittest

from outsoonest.errors import BadRow, NoRoom
from outsoonest.news import check_news, is_news
from tests.helping import STRANGE, Case, deep

ROWS = (("found", 0, 0), ("found", 19, 9), ("smoke", 0, 0), ("smoke", 19, 59), ("clear", 0), ("clear", 19), ("shut", 0, 0, 0),
        ("shut", 59, 59, 0), ("open", 59, 0, 59), ("open", 0, 59, 59), ("width", 0, 0), ("width", 59, 9), ("told", ()),
        ("told", ("stand", None, 0, 59)), ("told", (None,) * 60), ("beat", ()), ("beat", ("stand",) * 60), ("beat", (59, None)))

# Values that are no part, by the word, in the place of each of its parts.
NO_NUMBERS = STRANGE + ((0,), "1", 60)
NO_STEPS = tuple([value for value in STRANGE if value not in ((), [])]) + (
    (60,), (-1,), ("stands",), ("Stand",), ("",), (True,), (False,), (None, True), ((0,),), ((),), (("stand",),), "stand", 0,
    (None,) * 61, ("s",), (10 ** 20,), (NoRoom(0),), (deep(20),))
KINDS = {"found": (20, 10), "smoke": (20, 60), "clear": (20,), "shut": (60, 60, 60), "open": (60, 60, 60), "width": (60, 10),
         "told": None, "beat": None}


class News(Case):
    def test_rows(self):
        for row in ROWS:
            self.gives(row, check_news, row)
            self.gives(True, is_news, row)

    def bad(self, at, value):
        self.told(BadRow, at, check_news, value)
        self.assertIs(is_news(value), False)

    def test_no_sequence_of_a_word_and_as_many_parts(self):
        for value in STRANGE + ((), (0,), ("found",), ("Found", 0, 0), ("", 0, 0), (None, 0, 0), (("found",), 0, 0), (["clear"], 0), "clear",
                                ("find", 0, 0), (0, "found", 0), ("house", 0, 0), ("fold", 0), (True, 0), ("found ", 0, 0), ("stand",)):
            self.bad(0, value)
        for row in ROWS:
            self.bad(0, row + (0,))
            self.bad(0, row + (None,))
            self.bad(0, row[:-1])
            self.bad(0, row[:1])
        # How many parts there are is looked at ahead of what they are.
        for row in (("found", None), ("found", None, None, None), ("clear",), ("told", None, None), ("beat",)):
            self.bad(0, row)

    def test_first_part_that_is_none(self):
        for word, bounds in KINDS.items():
            for at, bound in enumerate(bounds or ()):
                right = [0] * len(bounds)
                for value in NO_NUMBERS + (bound, bound + 1):
                    row = [word] + right[:at] + [value] + right[at + 1:]
                    self.bad(at + 1, row)
                    # Parts behind it may be none, too.
                    self.bad(at + 1, tuple(row[:at + 2] + [None] * (len(bounds) - at - 1)))
                row = (word,) + tuple(right[:at]) + (bound - 1,) + tuple(right[at + 1:])
                self.gives(row, check_news, row)
        for word in ("told", "beat"):
            for value in NO_STEPS:
                self.bad(1, (word, value))

    def test_drawn(self):
        draw = random.Random(131)
        for _ in range(2000):
            word = draw.choice(list(KINDS))
            if KINDS[word] is None:
                steps = tuple([draw.choice(("stand", None, 0, 5, 59, 60, -1, True, "x")) if draw.random() < 0.3 else
                               draw.choice(("stand", None, 3)) for _ in range(draw.choice((0, 1, 3, 60, 61)))])
                right = len(steps) <= 60 and all(step in ("stand", None) or type(step) is int and 0 <= step < 60 for step in steps)
                row, at = (word, steps), None if right else 1
            else:
                row = (word,) + tuple([draw.choice((0, 1, 9, 10, 19, 20, 59, 60, -1, None, True)) for _ in KINDS[word]])
                wrong = [at + 1 for at, bound in enumerate(KINDS[word])
                         if type(row[at + 1]) is not int or not 0 <= row[at + 1] < bound]
                at = wrong[0] if wrong else None
            if at is None:
                self.gives(row, check_news, row)
                self.gives(True, is_news, row)
            else:
                self.bad(at, row)


if __name__ == "__main__":
    unittest.main()
