"""Houses as text, and states drawn: [78], [79]."""

import random
import re
import time
import unittest

from outsoonest.drawing import drawn, house_text, read_house
from outsoonest.errors import BadHouse, BadText
from outsoonest.state import follow, start, state_of
from tests.books import PlainBook, draw_news
from tests.draws import draw_house, great_task
from tests.helping import STRANGE, Case, listed, mixed
from tests.test_crowds import NO_HOUSES

HOUSE = ((0, 0, 1), ((0, 1, 1, 1, ()), (1, 2, 1, 1, (3, 4))), (5, None, None))
TEXT = "rooms ..>\npassage 0 1 1 1 -\npassage 1 2 1 1 3,4\nsmoke 0 5"
NUMBER = "(?:0|[1-9][0-9]*)"
GREATEST = ((0,) * 19 + (1,), tuple([(at % 19, 19, 9, 9, tuple(range(60))) for at in range(60)]), (59,) * 19 + (None,))


def text_by_hand(house):
    """The text of a house, by the words of the document."""
    lines = ["rooms " + "".join([".>"[kind] for kind in house[0]])]
    for tail, head, length, width, shut in house[1]:
        lines.append(" ".join(["passage", str(tail), str(head), str(length), str(width), ",".join(map(str, shut)) or "-"]))
    return "\n".join(lines + [f"smoke {room} {beat}" for room, beat in enumerate(house[2]) if beat is not None])


def read_line(rooms, passages, smoke, line):
    """Whether a line can stand behind others, by the words of the document; it is told to what is there already."""
    found = re.fullmatch(f"passage ({NUMBER}) ({NUMBER}) ([1-9]) ([0-9]) (-|{NUMBER}(?:,{NUMBER})*)", line, re.ASCII)
    if found and not smoke and len(passages) < 60:
        tail, head, length, width = map(int, found.groups()[:4])
        shut = () if found.group(5) == "-" else tuple(map(int, found.group(5).split(",")))
        if max(tail, head) < len(rooms) and tail != head and rooms[tail] == 0 and list(shut) == sorted(set(shut)) and max(shut, default=0) < 60:
            passages.append((tail, head, length, width, shut))
            return True
    found = re.fullmatch(f"smoke ({NUMBER}) ({NUMBER})", line, re.ASCII)
    if found:
        room, beat = map(int, found.groups())
        if room < len(rooms) and rooms[room] == 0 and beat < 60 and room > max(smoke, default=-1):
            smoke[room] = beat
            return True
    return False


def read_by_hand(text):
    """The house of a text, or the first line that cannot be."""
    lines = text.split("\n")
    found = re.fullmatch("rooms ([.>]{1,20})", lines[0])
    if not found:
        return 1
    rooms, passages, smoke = tuple([".>".index(sign) for sign in found.group(1)]), [], {}
    for at, line in enumerate(lines[1:]):
        if not read_line(rooms, passages, smoke, line):
            return at + 2
    return rooms, tuple(passages), tuple([smoke.get(room) for room in range(len(rooms))])


def drawn_by_hand(state):
    """A state drawn, by the words of the document."""
    now, end, (rooms, passages, smoke), people, told = state
    lines = [f"beat {now} of {end}"]
    for room, kind in enumerate(rooms):
        here = [person for person in people if person[1] == room]
        there = sorted([who[3] for who in here if who[0] == "out" or who[0] == "here" and who[2] == now])
        coming = sorted([(who[2], who[3]) for who in here if who[0] == "here" and who[2] > now])
        lost = len([who for who in here if who[0] == "lost"])
        sign = ">" if kind else "~" if smoke[room] is not None and smoke[room] <= now else "."
        lines.append(f"{room} {sign} {''.join(map(str, there)) or '-'} {','.join(['%d:%d' % row for row in coming]) or '-'} {lost}")
    for at, (tail, head, length, width, shut) in enumerate(passages):
        lines.append(f"{at} {tail}>{head} {length} {width} {'shut' if now in shut or not width else 'open'}")
    return "\n".join(lines + ["told " + (" ".join([{None: "-", "stand": "s"}.get(step, str(step)) for step in told]) or "-")])


class Texts(Case):
    """[78]."""

    def test_small(self):
        self.gives(TEXT, house_text, HOUSE)
        self.gives(HOUSE, read_house, TEXT)
        for text, house in (("rooms .", ((0,), (), (None,))), ("rooms >", ((1,), (), (None,))), ("rooms " + "." * 20, ((0,) * 20, (), (None,) * 20)),
                            ("rooms ..\nsmoke 0 0\nsmoke 1 59", ((0, 0), (), (0, 59))),
                            ("rooms .>\npassage 0 1 9 0 0,59\npassage 0 1 1 9 -", ((0, 1), ((0, 1, 9, 0, (0, 59)), (0, 1, 1, 9, ())), (None, None)))):
            self.gives(text, house_text, house)
            self.gives(house, read_house, text)
        self.assertEqual(house_text(house=listed(HOUSE)), TEXT)
        self.assertEqual(read_house(text=TEXT), HOUSE)

    def test_no_houses(self):
        for value, at in NO_HOUSES:
            self.told(BadHouse, at, house_text, value)

    def test_no_texts(self):
        for value in STRANGE + ((), (TEXT,), [TEXT], HOUSE, TEXT.encode()):
            self.told(BadText, 1 if isinstance(value, str) else 0, read_house, value)

    def test_lines_that_are_none(self):
        for text, line in (("", 1), ("\n", 1), ("rooms", 1), ("rooms ", 1), ("rooms  .", 1), ("rooms . ", 1), (" rooms .", 1), ("room .", 1),
                           ("Rooms .", 1), ("rooms .\n", 2), ("rooms .x", 1), ("rooms . .", 1), ("rooms " + "." * 21, 1), ("rooms .\r", 1),
                           (TEXT + "\n", 5), (TEXT + "\n\n", 5), ("\n" + TEXT, 1), (TEXT.replace("\n", "\r\n"), 1), (TEXT.replace("\n", " "), 1),
                           ("rooms .>\nrooms .>", 2), ("smoke 0 1", 1), ("passage 0 1 1 1 -", 1)):
            self.told(BadText, line, read_house, text)
        for line in ("passage 0 1 1 1", "passage 0 1 1 1 - -", "passage 0 1 1 1 ", "passage 0 1 1  -", "passage 0 0 1 1 -", "passage 2 1 1 1 -",
                     "passage 0 3 1 1 -", "passage 3 0 1 1 -", "passage 0 1 0 1 -", "passage 0 1 10 1 -", "passage 0 1 1 10 -", "passage 0 1 1 -1 -",
                     "passage 00 1 1 1 -", "passage 0 01 1 1 -", "passage 0 1 01 1 -", "passage 0 1 1 01 -", "passage 0 1 1 1 01",
                     "passage 0 1 1 1 4,3", "passage 0 1 1 1 3,3", "passage 0 1 1 1 60", "passage 0 1 1 1 3,", "passage 0 1 1 1 ,3",
                     "passage 0 1 1 1 3,,4", "passage 0 1 1 1 3, 4", "passage 0 1 1 1 3;4", "passage 0 1 1 1 -,3", "passage 0 1 1 1 3,-",
                     "passage 0 1 1 1 --", "passage x 1 1 1 -", "passage 0 q 1 1 -", "passage +0 1 1 1 -", "passage 0 1 1.0 1 -", "passage 0 1 1_0 1 -", "passage",
                     "Passage 0 1 1 1 -", "passages 0 1 1 1 -", "passage\t0 1 1 1 -", "smoke", "smoke 0", "smoke 0 5 5", "smoke 2 5", "smoke 3 5",
                     "smoke 0 60", "smoke 00 5", "smoke 0 05", "smoke 0 -1", "smoke 0 -", "smoke 0 None", "smoke  0 5", "smoke 0 5 ", " smoke 0 5",
                     "smoke x 5", "", " ", "x", "passage " + "9" * 5000 + " 1 1 1 -", "smoke 0 " + "1" * 5000, "smoke 0 1000000000",
                     "smoke \u0660 5", "smoke 0 \u00b2", "passage \uff10 1 1 1 -"):
            self.told(BadText, 2, read_house, "rooms ..>\n" + line)
            self.told(BadText, 3, read_house, "rooms ..>\npassage 0 1 1 1 -\n" + line + "\nsmoke 0 5")
            self.told(BadText, 3, read_house, "rooms ..>\nsmoke 0 5\n" + line)

    def test_order(self):
        for rest, line in (("smoke 0 5\npassage 0 1 1 1 -", 3), ("smoke 1 5\nsmoke 0 5", 3), ("smoke 0 5\nsmoke 0 5", 3), ("smoke 0 5\nsmoke 0 6", 3),
                           ("passage 0 1 1 1 -\nrooms ..>", 3)):
            self.told(BadText, line, read_house, "rooms ..>\n" + rest)
        many = "rooms .>" + "\npassage 0 1 1 1 -" * 60
        self.assertEqual(len(read_house(many)[1]), 60)
        self.told(BadText, 62, read_house, many + "\npassage 0 1 1 1 -")
        self.told(BadText, 62, read_house, many + "\npassage 0 1 1 1 -\nx")
        self.assertEqual(read_house(many + "\nsmoke 0 3")[2], (3, None))

    def check_text(self, text):
        told = read_by_hand(text)
        if isinstance(told, int):
            self.told(BadText, told, read_house, text)
        else:
            self.gives(told, read_house, text)
            self.gives(text, house_text, told)
        return isinstance(told, int)

    def test_changed_lines(self):
        draw = random.Random(241)
        bad = good = 0
        for _ in range(60):
            house = draw_house(draw, rooms=5, passages=6, beats=12)
            text = text_by_hand(house)
            self.gives(text, house_text, house)
            self.gives(house, read_house, text)
            lines = text.split("\n")
            for at, line in enumerate(lines):
                words = line.split(" ")
                place = draw.randrange(len(line) + 1)
                word = draw.randrange(len(words))
                for changed in ([], [line, line], [line + "\n"], [line[:place] + draw.choice("01-,.> x") + line[place:]], [line[:place] + line[place + 1:]],
                                [" ".join(words[:word] + ["0" + words[word]] + words[word + 1:])], [line.replace(" ", "  ", 1)], [line + " "],
                                [" " + line], [" ".join(words[:-1])], [" ".join(words + ["0"])]):
                    told = self.check_text("\n".join(lines[:at] + changed + lines[at + 1:]))
                    bad, good = bad + told, good + (not told)
                self.check_text("\n".join(lines[:at] + lines[at + 1:at + 2] + [line] + lines[at + 2:]))
                self.check_text("\n".join(lines[:at + 1]))
        self.assertTrue(bad > 500 and good > 100, (bad, good))

    def test_great(self):
        began = time.monotonic()
        self.gives(text_by_hand(GREATEST), house_text, GREATEST)
        self.gives(GREATEST, read_house, text_by_hand(GREATEST))
        self.told(BadText, 81, read_house, text_by_hand(GREATEST) + "\nx" * 120)
        self.assertLess(time.monotonic() - began, 5)


class Drawn(Case):
    """[79]."""

    def test_small(self):
        self.gives("beat 0 of 8\n0 . - - 0\n1 . - - 0\n2 > - - 0\n0 0>1 1 1 open\n1 1>2 1 1 open\ntold -", drawn, start(HOUSE, 8))
        self.gives("beat 0 of 0\n0 > - - 0\ntold -", drawn, start(((1,), (), (None,)), 0))

    def test_everybody(self):
        house = ((0, 0, 1), ((0, 1, 3, 9, ()), (1, 2, 1, 2, (2,)), (0, 2, 2, 9, ()), (0, 1, 1, 0, ())), (None, None, None))
        rows = [("found", 0, urgency) for urgency in (9, 3, 3, 0, 5, 1)] + [("found", 1, 4), ("found", 1, 4), ("found", 1, 2)]
        rows += [("beat", (0, 0, 0, 2, "stand", "stand", 1, "stand", 1)), ("told", (None,) * 5 + ("stand", None, 1, None))]
        state = state_of(house, 8, rows)
        self.gives("beat 1 of 8\n0 . 15 - 0\n1 . 4 3:3,3:3,3:9 0\n2 > 24 2:0 0\n0 0>1 3 9 open\n1 1>2 1 2 open\n2 0>2 2 9 open\n3 0>1 1 0 shut\n"
                   "told - - - - - s - 1 -", drawn, state)
        # Lost in a room, and on the way there; some shut now; one more out.
        state = state_of(house, 8, rows + [("smoke", 1, 2), ("beat", (None,) * 4 + (0, "stand", None, "stand", None)), ("shut", 2, 2, 3)])
        self.gives("beat 2 of 8\n0 . 1 - 0\n1 ~ - - 5\n2 > 024 - 0\n0 0>1 3 9 open\n1 1>2 1 2 shut\n2 0>2 2 9 shut\n3 0>1 1 0 shut\n"
                   "told - - - - - - - - -", drawn, state)
        self.gives(drawn(state), drawn, follow(state, ("smoke", 0, 3)))
        self.assertIn("\n0 ~ - - 1\n", drawn(follow(state, ("smoke", 0, 2))))

    def test_told(self):
        house = ((0, 1), tuple([(0, 1, 1, 1, ())] * 12), (None, None))
        state = state_of(house, 9, [("found", 0, 0)] * 4 + [("told", (11, "stand", None, 0))])
        self.assertEqual(drawn(state).split("\n")[-1], "told 11 s - 0")
        self.assertEqual(drawn(state).split("\n")[1], "0 . 0000 - 0")

    def test_beside_a_book(self):
        draw = random.Random(242)
        for _ in range(60):
            house, end = draw_house(draw, rooms=5, passages=8, beats=10, width=3), draw.choice((0, 3, 8, 12))
            book = PlainBook(house, end)
            for _ in range(40):
                row = draw_news(draw, book, 0)
                if book.why_not(row) is None:
                    book.tell(row)
                state = book.state()
                self.assertEqual(drawn(state=state), drawn_by_hand(state))
            self.gives(drawn_by_hand(state), drawn, state)
            self.gives(text_by_hand(state[2]), house_text, mixed(state[2]))

    def test_great(self):
        house = great_task(243)[0]
        state = state_of(house, 59, [("found", at % 18, at % 10) for at in range(60)])
        began = time.monotonic()
        self.gives(drawn_by_hand(state), drawn, state)
        self.assertLess(time.monotonic() - began, 5)


if __name__ == "__main__":
    unittest.main()
