"""Octets, things and rows, their forms, and the reading of them: [5], [6], [7]."""

import itertools
import random
import unittest

from outsoonest.errors import BadOctets, BadRow, Broken, NoBeat, Refused
from outsoonest.forms import (healing, is_row, is_value, read_row, read_rows, read_value, value_length, whole_value,
                              write_row, write_value)
from outsoonest.words import need_octets
from tests.helping import STRANGE, Case, deep, listed

SIGNS = "abcdefghijklmnopqrstuvwxyz0123456789-_ "
MOST = 256 ** 200

# No sequence, and sequences by the index of the first item that is no octet.
BAD_OCTETS = ((None, -1), (0, -1), (True, -1), ("ab", -1), (NoBeat(1), -1), ((None,), 0), ([0, True], 1), ((256,), 0),
              ([255, 0, -1, 256], 2), ((0, (0,)), 1), (deep(50), 0), ([0, "0"], 1), ((1, 2, 3, False), 3))

THINGS = (None, 0, 1, 255, 256, 65535, 65536, MOST - 1, -1, -2, -256, -257, -MOST, "", "a", "z09-_ ", "a" * 4095, (),
          (None,), ((), ((),)), ("told", (None, 3), -1), (0,) * 4095, deep(39), deep(39, None), (None,) * 255,
          ("",) * 256, " " * 256)

NO_THINGS = (True, False, MOST, -MOST - 1, "A", "\n", "a.b", "\xe9", "a" * 4096, (0,) * 4096, deep(40), deep(50),
             (True,), [0, [False]], NoBeat(0), [Refused(1)], (MOST,), ("a", ("B",)))


class Octets(Case):
    def test_need_octets(self):
        self.gives((), need_octets, ())
        self.gives((0, 255, 7), need_octets, (0, 255, 7))
        self.gives(tuple(range(256)), need_octets, tuple(range(256)))

    def test_bad_octets(self):
        for value, at in BAD_OCTETS:
            for call, more in ((need_octets, ()), (read_value, (0,)), (read_row, (0,)), (whole_value, ()),
                               (read_rows, ()), (healing, ())):
                self.told(BadOctets, at, call, value, *more)

    def test_octets_are_looked_at_first(self):
        for call in (read_value, read_row):
            self.told(BadOctets, 1, call, (0, 300), -1)
            self.refuses(Refused, call, ((0,), 0), 1, [value for value in STRANGE if value not in (10 ** 12, MOST)])
            self.refuses(Refused, call, ((0,), 0), 1, (-1, True, None, "0", (0,)))


class Things(Case):
    def test_is_value(self):
        for value in THINGS:
            self.assertIs(is_value(value), True, repr(value)[:50])
            self.assertIs(is_value(listed(value)), True)
        for value in NO_THINGS:
            self.assertIs(is_value(value), False, repr(value)[:50])
            self.assertIs(is_value(listed(value)), False)

    def test_depth(self):
        for many in range(51):
            self.assertIs(is_value(deep(many, None)), many <= 40, many)
            self.assertIs(is_value(deep(many)), many <= 39, many)
            self.assertIs(is_row(("a", deep(many, None))), many <= 39, many)
        self.assertTrue(is_value([deep(38), deep(39, None), 3]))
        self.assertFalse(is_value([deep(38), deep(39), 3]))

    def test_is_row(self):
        for value in (("a",), [""], ("told", None, ()), ("a",) * 4095, ("a", deep(39, 1))):
            self.gives(True, is_row, value)
        for value in STRANGE + NO_THINGS + ((), (None,), (0, "a"), ("A",), ("a",) * 4096, ("a", deep(40, 1)),
                                            ("a", True), (("a",),), "a"):
            self.gives(False, is_row, value)

    def test_write_value(self):
        for value, octets in ((None, (0,)), (0, (1, 0)), (1, (1, 1, 1)), (256, (1, 2, 1, 0)), (-1, (2, 0)),
                              (-2, (2, 1, 1)), (-257, (2, 2, 1, 0)), ("", (3, 0)), ("a", (3, 1, 1, 0)),
                              ("_ ", (3, 1, 2, 37, 38)), ("z0", (3, 1, 2, 25, 26)), ((), (4, 0)),
                              ((None, ()), (4, 1, 2, 0, 4, 0)), (65534, (1, 2, 255, 254))):
            self.gives(octets, write_value, value)
            self.gives(len(octets), value_length, value)
        self.assertEqual(write_value(MOST - 1), (1, 200) + (255,) * 200)
        self.assertEqual(write_value(-MOST), (2, 200) + (255,) * 200)
        self.assertEqual(write_value("b" * 4095), (3, 2, 15, 255) + (1,) * 4095)
        self.assertEqual(write_value((None,) * 4095), (4, 2, 15, 255) + (0,) * 4095)
        self.assertEqual(write_value("".join(SIGNS)), (3, 1, 39) + tuple(range(39)))

    def test_write_value_refuses(self):
        for value in NO_THINGS:
            self.told(Refused, value, write_value, value)
            self.told(Refused, value, value_length, value)

    def test_write_row(self):
        for row in (("a",), ("told", (None, 3)), ("", -1, deep(39, None)), ("a",) * 4095):
            self.gives(write_value(row), write_row, row)
        for value in STRANGE[:11] + ((), [], (None,) * 4096, NoBeat(2), "a"):
            self.told(BadRow, -1, write_row, value)
        for row, at in (((None,), 0), ((0, True), 0), ((("a",),), 0), (("A", 1), 0), (("a", True), 1), (["a", 0, 1.5], 2),
                        (("a", deep(40, None)), 1), (("a", deep(39, None), deep(39)), 2), (("a", None, MOST), 2),
                        (deep(50), 0), ((deep(40), "a"), 0)):
            self.told(BadRow, at, write_row, row)


class Form:
    """Forms read by a way of its own: each octet with what can stand there, told by the words of [6]."""

    def __init__(self, octets, at):
        self.octets, self.at = octets, at

    def one(self, allowed):
        if self.at >= len(self.octets):
            raise EOFError
        if self.octets[self.at] not in allowed:
            raise IndexError(self.at)
        self.at += 1
        return self.octets[self.at - 1]

    def number(self, most, least=0):
        long = self.one([many for many in range(256) if many <= (len("%x" % most) + 1) // 2 and (many or least == 0)])
        value = 0
        for at in range(long):
            rest = 256 ** (long - 1 - at)
            value += rest * self.one([octet for octet in range(256) if value + octet * rest <= most and (at or octet)])
        return value

    def thing(self, deep_left, row=0):
        kinds = {0: (0, 1, 2, 3, 4), 1: (4,), 2: (3,)}[row]
        kind = self.one([kind for kind in kinds if kind < 4 or deep_left])
        if kind == 0:
            return None
        if kind < 3:
            value = self.number(MOST - 1)
            return value if kind == 1 else -1 - value
        many = self.number(4095, 1 if row == 1 else 0)
        if kind == 3:
            return "".join([SIGNS[self.one(range(39))] for _ in range(many)])
        return tuple([self.thing(deep_left - 1, 2 if row == 1 and at == 0 else 0) for at in range(many)])


def plain_read(octets, at, row):
    """(thing, behind) or the place at which it is broken."""
    form = Form(octets, at)
    try:
        return form.thing(40, row), form.at
    except EOFError:
        return len(octets)
    except IndexError as broken:
        return broken.args[0]


def plain_rows(octets):
    rows, at = [], 0
    while at < len(octets):
        told = plain_read(octets, at, 1)
        if not isinstance(told, tuple):
            return (tuple(rows), at) if told == len(octets) else told
        rows.append(told[0])
        at = told[1]
    return tuple(rows), at


class Reading(Case):
    def reads(self, result, call, *args):
        """The call returns a tuple, or is broken at a place."""
        if isinstance(result, tuple):
            self.gives(result, call, *args)
        else:
            self.told(Broken, result, call, *args)
            self.told(Broken, result, call, *listed(args))

    def agrees(self, octets):
        """All that is read of octets is as the plain reading tells it."""
        for at in (0, 1, len(octets)):
            self.reads(plain_read(octets, at, 0), read_value, octets, at)
            self.reads(plain_read(octets, at, 1), read_row, octets, at)
        self.reads(plain_rows(octets), read_rows, octets)
        whole = plain_read(octets, 0, 0)
        if isinstance(whole, tuple) and whole[1] == len(octets):
            self.gives(whole[0], whole_value, octets)
        else:
            self.told(Broken, whole[1] if isinstance(whole, tuple) else whole, whole_value, octets)

    def test_what_is_written_is_read(self):
        for value in THINGS:
            octets = write_value(listed(value))
            for ahead, behind in (((), ()), ((4,), (0,)), ((255, 255), (255,)), ((3, 1), (4, 200)), ((0,) * 9, octets)):
                told = read_value(ahead + octets + behind, len(ahead))
                self.assertEqual(told, (tupled(value), len(ahead + octets)))
                self.gives(told, read_value, ahead + octets + behind, len(ahead))
            self.gives(tupled(value), whole_value, octets)
            self.assertEqual(write_value(whole_value(octets)), octets)
            self.told(Broken, len(octets), whole_value, octets + (0,))

    def test_rows_are_read(self):
        rows = (("a",), ("told", (None, 3)), ("", -5, deep(39, None)), ("b", 256 ** 3, ("c", ())))
        octets = ()
        for row in rows:
            octets += write_row(row)
            self.assertEqual(read_row((1, 2) + write_row(row) + (9,), 2), (tupled(row), 2 + len(write_row(row))))
        self.gives((tuple(map(tupled, rows)), len(octets)), read_rows, octets)
        self.gives(((), 0), read_rows, ())
        self.gives((), healing, octets)
        self.gives((), healing, ())

    def test_behind_the_end(self):
        for at in (3, 4, 10 ** 9):
            self.told(Broken, 3, read_value, (0, 0, 0), at)
            self.told(Broken, 3, read_row, (0, 0, 0), at)
        self.told(Broken, 0, read_value, (), 0)
        self.told(Broken, 0, whole_value, [])

    def test_broken(self):
        for octets, place in (((5,), 0), ((1, 201), 1), ((1, 200), 2), ((1, 1, 0), 2), ((1, 2, 1), 3), ((3, 3), 1),
                              ((3, 2, 16), 2), ((3, 2, 0), 2), ((3, 1, 1, 39), 3), ((3, 1, 1), 3), ((4, 3), 1),
                              ((4, 2, 15), 3), ((4, 2, 16), 2), ((4, 1, 2, 0, 9), 4), ((2, 201), 1), ((4, 1, 0), 2)):
            self.told(Broken, place, read_value, octets, 0)
            self.told(Broken, place, whole_value, octets)
        for octets, place in (((0,), 0), ((4, 0), 1), ((4, 1, 1, 0), 3), ((4, 1, 1, 4), 3), ((4, 1, 1, 3), 4), ((4,), 1)):
            self.told(Broken, place, read_row, octets, 0)

    def test_forty_deep(self):
        within = (4, 1, 1)
        self.assertEqual(read_value(within * 39 + (4, 0), 0)[1], 119)
        self.told(Broken, 120, read_value, within * 40 + (4, 0), 0)
        self.told(Broken, 120, read_value, within * 40, 0)
        self.assertEqual(read_value(within * 40 + (0,), 0)[1], 121)
        row = (4, 1, 2, 3, 0)
        self.assertEqual(read_row(row + within * 39 + (0,), 0)[1], 123)
        self.told(Broken, 122, read_row, row + within * 39 + (4,), 0)

    def test_short_octets(self):
        for many in range(5):
            for octets in itertools.product((0, 1, 2, 3, 4, 38, 39) if many == 4 else (0, 1, 2, 3, 4, 15, 16, 38, 39, 201, 255),
                                            repeat=many):
                self.agrees(octets)

    def test_cut_and_bent(self):
        octets = ()
        for row in (("ab", -300, (None, "c", ())), ("", (("d", 70000), 5)), ("e" * 300,), ("f", (None,) * 260)):
            octets += write_row(row)
        for at in range(len(octets)):
            if at < 60 or at % 7 == 0:
                self.agrees(octets[:at])
        draw = random.Random(7)
        for at in list(range(50)) + draw.sample(range(len(octets)), 25):
            for octet in draw.sample(range(256), 5) + [0, 1, 2, 3, 4, 5, 39]:
                self.agrees(octets[:at] + (octet,) + octets[at + 1:])

    def test_drawn_octets(self):
        draw = random.Random(8)
        for _ in range(1500):
            self.agrees(tuple([draw.choice((0, 0, 1, 1, 1, 2, 3, 3, 4, 4, 4, 5, 200)) for _ in range(draw.randrange(14))]))

    def test_no_form_begins_another_one(self):
        forms = [write_value(tupled(value)) for value in THINGS]
        for one, other in itertools.permutations(forms, 2):
            self.assertNotEqual(one, other[:len(one)])

    def test_cut_rows_are_read(self):
        rows = (("a", 1), ("told", (None, 3)), ("beat", ("stand", 0)), ("", ()))
        octets = ()
        ends = []
        for row in rows:
            octets += write_row(row)
            ends.append(len(octets))
        for at in range(len(octets) + 1):
            many = len([end for end in ends if end <= at])
            self.gives((rows[:many], ([0] + ends)[many]), read_rows, octets[:at])


class Healing(Case):
    def test_healed(self):
        for hangs, added in (((), ()), ((4,), (1, 1, 3, 0)), ((4, 1), (1, 3, 0)), ((4, 1, 1), (3, 0)),
                             ((4, 1, 1, 3), (0,)), ((4, 1, 1, 3, 1), (1, 0)), ((4, 1, 2, 3, 0), (0,)),
                             ((4, 1, 2, 3, 0, 1), (0,)), ((4, 1, 2, 3, 0, 1, 3), (1, 0, 0)),
                             ((4, 1, 2, 3, 0, 2, 2, 5), (0,)), ((4, 1, 2, 3, 0, 4, 1), (1, 0)),
                             ((4, 2), (1, 0, 3, 0) + (0,) * 255), ((4, 2, 2), (0, 3, 0) + (0,) * 511),
                             ((4, 1, 1, 3, 2), (1, 0) + (0,) * 256), ((4, 1, 3, 3, 0, 4, 1, 2), (0, 0, 0))):
            for ahead in ((), write_row(("a", 5)), write_row(("b",)) * 3):
                self.gives(added, healing, ahead + hangs)

    def test_the_same_errors(self):
        for octets in ((0,), (5,), (4, 0), (4, 1, 1, 0), write_row(("a",)) + (3,)):
            with self.assertRaises(Broken) as caught:
                read_rows(octets)
            self.told(Broken, caught.exception.at, healing, octets)
            self.told(Broken, len(octets) - 1, healing, octets)

    def test_fewest_and_least(self):
        octets = write_row(("a", -300, ("b", None), ((),))) + write_row(("", 5, "cd"))
        for at in range(len(octets) + 1):
            added = healing(octets[:at])
            rows, behind = read_rows(octets[:at] + added)
            self.assertEqual(behind, at + len(added))
            self.assertEqual(healing(octets[:at] + added), ())
            for many in range(min(len(added), 3) + 1):
                for other in itertools.product(range(6), repeat=many):
                    if (len(other), other) < (len(added), added):
                        told = plain_rows(octets[:at] + other)
                        self.assertFalse(isinstance(told, tuple) and told[1] == at + many, (at, added, other))


class Great(Case):
    def test_twenty_thousand_octets(self):
        value = tuple([("word", at, -at, None) for at in range(1500)])
        octets = write_value(value)
        self.assertGreater(len(octets), 20000)
        self.assertEqual(whole_value(octets), value)
        row = write_row(("a", value))
        self.assertEqual(read_rows(row * 2), ((("a", value),) * 2, 2 * len(row)))
        self.assertEqual(len(read_rows(row + row[:-1])[0]), 1)
        self.assertEqual(healing(row + row[:-1]), (0,))


def tupled(value):
    """A value with tuples for lists, at every depth."""
    if isinstance(value, (list, tuple)):
        return tuple([tupled(part) for part in value])
    return value


if __name__ == "__main__":
    unittest.main()
