"""What holds of every function of the interface: any values, sequences, names, and calls that come between: [1], [2]."""

import importlib
import inspect
import unittest

from outsoonest import errors
from outsoonest.book import new_book
from outsoonest.crowds import crowd_paper
from outsoonest.drills import drill_papers
from outsoonest.forms import write_row
from outsoonest.journals import Journal
from outsoonest.lots import left_papers
from outsoonest.reasons import why
from outsoonest.soonest import soonest_flow, soonest_run
from outsoonest.state import state_of
from outsoonest.turned import fewest_turned
from outsoonest.whatif import least_end
from outsoonest.ways import plan
from tests.helping import STRANGE, copied, deep, listed, mixed, same
from tests.test_interface import FUNCTIONS

HOUSE = ((0, 0, 1, 0), ((1, 0, 1, 1, (4,)), (0, 2, 1, 1, ()), (3, 0, 1, 2, ()), (3, 2, 4, 1, ())), (None, 5, None, None))
PEOPLE = ((1, 0, 2), (1, 0, 0), (3, 0, 1), (3, 1, 0))
TASK = (HOUSE, PEOPLE, 0, 4)
RUN, FLOW = soonest_run(TASK), soonest_flow(TASK)
NET = (4, ((0, 1, 2), (0, 2, 1), (1, 2, None), (1, 3, 1), (2, 3, 2)))
LOAD = (2, 1, 1, 1, 2)
STEPS = ("stand", 0, 3, None)
STATE = state_of(HOUSE, 6, [("found", 1, 2), ("found", 1, 0), ("found", 3, 1), ("told", (0, "stand", 2))])
CUT = (1, 0, None, 0)
FLOOR = ((0, 1, 3), 0)
NEXT = (HOUSE[0], HOUSE[1][:3], HOUSE[2]), PEOPLE, 0, 4
OCTETS = write_row(("page", 0, 1)) + write_row(("house", HOUSE, 6))
PAPER = left_papers(TASK, 2)[0][1]
BOOK = new_book(HOUSE, 6)

# By function what may be passed; behind it the places at which any value may stand.
CALLS = {
    "need_octets": ((OCTETS,), (0,)), "is_value": ((((0, -3, None), "ab"),), (0,)), "is_row": ((("ab", (0,)),), (0,)),
    "write_value": ((((0, -3, None), "ab"),), (0,)), "write_row": ((("ab", (0,)),), (0,)), "value_length": ((((0, -3, None), "ab"),), (0,)),
    "read_value": ((OCTETS, 0), (0, 1)), "whole_value": ((write_row(("ab", (0,))),), (0,)), "read_row": ((OCTETS, 0), (0, 1)),
    "read_rows": ((OCTETS,), (0,)), "healing": ((OCTETS[:-3],), (0,)),
    "check_house": ((HOUSE,), (0,)), "with_smoke": ((HOUSE, 0, 3), (0, 1, 2)), "cleared": ((HOUSE, 1), (0, 1)), "with_width": ((HOUSE, 0, 3), (0, 1, 2)),
    "with_shut": ((HOUSE, 0, 3, 5), (0, 1, 2, 3)), "with_open": ((HOUSE, 0, 3, 5), (0, 1, 2, 3)), "ways_out": ((HOUSE,), ()),
    "passages_from": ((HOUSE, 3), (1,)), "passages_to": ((HOUSE, 2), (1,)), "is_place": ((HOUSE, 1, 5), ()), "can_enter": ((HOUSE, 0, 4), ()),
    "entries": ((HOUSE, 0, 0, 9), ()), "soonest_alone": ((HOUSE, 1, 0, 9), (0, 1, 2, 3)), "last_alone": ((HOUSE, 9), (0, 1)),
    "way_alone": ((HOUSE, 1, 0, 9), (0, 1, 2, 3)), "way_holds": ((HOUSE, 1, 0, 9, ((0, 0), (1, 1))), (0, 1, 2, 3, 4)),
    "check_people": ((HOUSE, PEOPLE), (0, 1)), "need_person": ((PEOPLE, 2), (1,)), "in_order": ((PEOPLE,), ()), "is_lot_of": ((PEOPLE, (0, 2)), (1,)),
    "lot_ranks": ((PEOPLE, (0, 2)), ()), "first_lot": ((PEOPLE, ((0, 2), (1,))), ()), "by_room": ((HOUSE, PEOPLE, 0), ()),
    "words_of": ((HOUSE, PEOPLE, 0), ()),
    "check_task": ((TASK,), (0,)), "with_people": ((TASK, PEOPLE[:2]), (0, 1)), "part_of": ((TASK, (0, 2)), (0, 1)), "nodes_of": ((TASK,), (0,)),
    "arcs_of": ((TASK,), (0,)), "begins": ((TASK,), (0,)), "goals": ((TASK,), (0,)), "flow_holds": ((TASK, FLOW), (0, 1)),
    "flow_out": ((TASK, FLOW), (0, 1)),
    "check_run": ((TASK, RUN), (0, 1)), "run_faults": ((TASK, RUN), (0, 1)), "run_holds": ((TASK, RUN), (0, 1)),
    "where": ((TASK, RUN, 1, 2), (0, 1, 2, 3)), "outs": ((TASK, RUN), (0, 1)), "out_by": ((TASK, RUN), (0, 1)), "lost_of": ((TASK, RUN), (0, 1)),
    "run_flow": ((TASK, RUN), (0, 1)), "flow_run": ((TASK, FLOW), (0, 1)),
    "check_net": ((NET,), (0,)), "no_flow": ((NET,), (0,)), "flow_fits": ((NET, 0, 3, LOAD), (0, 1, 2, 3)), "worth": ((NET, 0, 3, LOAD), (0, 1, 2, 3)),
    "cut_worth": ((NET, (0, 2)), (0, 1)), "walk": ((NET, LOAD, 0, (3, 1)), (0, 1, 2, 3)), "walk_holds": ((NET, LOAD, 2, 3, ((2, -1), (3, 1))), (0, 1, 2, 3, 4)),
    "reached": ((NET, LOAD, 0), (0, 1, 2)), "reaching": ((NET, LOAD, 3), (0, 1, 2)), "spare": ((NET, LOAD, ((0, -1), (1, 1))), (0, 1, 2)),
    "turned_by": ((NET, LOAD, ((2, 1),), 2), (0, 1, 2, 3)), "led_on": ((NET, 0, 3, LOAD), (0, 1, 2, 3)), "greatest": ((NET, 0, 3), (0, 1, 2)),
    "cuts": ((NET, 0, 3), (0, 1, 2)), "unlike": ((NET, 0, 3, LOAD, (0,) * 5), (0, 1, 2, 3, 4)),
    "ends_fit": ((NET, 0, (3, 2), LOAD), (0, 1, 2, 3)), "brought": ((NET, 0, (3, 2), LOAD), (0, 1, 2, 3)), "most_to": ((NET, 0, (3, 2)), (0, 1, 2)),
    "soonest_to": ((NET, 0, (3, 2)), (0, 1, 2)), "walls": ((NET, 0, (3, 2)), (0, 1, 2)), "goal_net": ((TASK,), (0,)), "soonest": ((TASK,), (0,)),
    "soonest_flow": ((TASK,), (0,)), "soonest_run": ((TASK,), (0,)), "walls_of": ((TASK,), (0,)),
    "is_held": ((TASK, CUT, 1), (0, 1, 2)), "held_nodes": ((TASK, CUT), (0, 1)), "begin_outside": ((TASK, 2, CUT), (0, 1, 2)),
    "passed": ((TASK, 2, CUT), (0, 1, 2)), "cut_lets": ((TASK, 2, CUT), (0, 1, 2)), "cut_at": ((TASK, 2), (0, 1)), "cut_wide": ((TASK, 2), (0, 1)),
    "cut_holds": ((TASK, 2, CUT), (0, 1, 2)), "meets": ((TASK, 2, RUN, CUT), (0, 1, 2, 3)), "both_held": ((TASK, CUT, CUT), (0, 1, 2)),
    "either_held": ((TASK, CUT, CUT), (0, 1, 2)), "lies_within": ((TASK, 2, CUT, CUT), (0, 1, 2, 3)),
    "most_out": ((TASK, 3), (0, 1)), "can_be_out": ((TASK, 3, (0, 2)), (0, 1, 2)), "first_out": ((TASK, 3), (0, 1)), "left_papers": ((TASK, 2), (0, 1)),
    "added": ((TASK, 3, (), (1,)), (0, 1, 2, 3)), "crowd_holds": ((TASK, 2, PAPER), (0, 1, 2)),
    "most_from": ((HOUSE, 0, 4, (0, 1)), (0, 1, 2, 3)), "crowd_can": ((HOUSE, 0, 4, (2, 2, 0, 2)), (0, 1, 2, 3)),
    "crowd_paper": ((HOUSE, 0, 4, (9, 2, 0, 2)), (0, 1, 2, 3)),
    "crowd_bars": ((HOUSE, 0, 4, (9, 2, 0, 2), crowd_paper(HOUSE, 0, 4, (9, 2, 0, 2))), (0, 1, 2, 3, 4)), "fullest": ((HOUSE, 0, 4, (3, 0)), (0, 1, 2, 3)),
    "both": ((TASK,), (0,)), "both_flow": ((TASK,), (0,)), "both_holds": ((TASK, (0, 1), FLOW), (0, 1, 2)), "people_of": ((TASK, FLOW), (0, 1)),
    "swapped": ((TASK, FLOW, plan(TASK)[0]), (0, 1, 2)), "joined": ((TASK,), (0,)),
    "exchanged": ((TASK, ((), (), (), ()), 0, 1, 1), (0, 1, 2, 3, 4)), "queued": ((TASK, RUN), (0, 1)), "is_queued": ((TASK, RUN), (0, 1)),
    "longest_stands": ((TASK, RUN), (0, 1)), "ways": ((TASK, FLOW), (0, 1)), "ways_hold": ((TASK, FLOW, RUN), (0, 1, 2)), "plan": ((TASK,), (0,)),
    "plan_holds": ((TASK, plan(TASK)), (0, 1)),
    "check_news": ((("told", STEPS),), (0,)), "is_news": ((("told", STEPS),), (0,)),
    "start": ((HOUSE, 6), (0, 1)), "follow": ((STATE, ("beat", (0, "stand", 2))), (1,)), "state_of": ((HOUSE, 6, (("found", 0, 1),)), (0, 1)),
    "task_of": ((STATE,), ()), "steps_told": ((STATE,), ()), "with_word": ((STATE, "here"), ()), "out_till": ((STATE, 0), (1,)),
    "behind": ((TASK, RUN), (0, 1)), "kept_run": ((TASK, RUN), (0, 1)), "led_best": ((TASK, FLOW), (0, 1)), "led_run": ((TASK, RUN), (0, 1)),
    "check_told": ((TASK, STEPS), (0, 1)), "steps_of_run": ((TASK, RUN), (0, 1)), "turned_by_run": ((TASK, STEPS, RUN), (0, 1, 2)),
    "is_best": ((TASK, RUN), (0, 1)), "turn_net": ((TASK, STEPS), (0, 1)), "fewest_turned": ((TASK, STEPS), (0, 1)),
    "prices_worth": ((TASK, STEPS, fewest_turned(TASK, STEPS)[2]), (0, 1, 2)),
    "prices_hold": ((TASK, STEPS, fewest_turned(TASK, STEPS)[0], fewest_turned(TASK, STEPS)[2]), (0, 1, 2, 3)),
    "without_passage": ((TASK, 1), (0, 1)), "with_wider": ((TASK, 1), (0, 1)), "with_later": ((TASK,), (0,)), "passage_falls": ((TASK,), (0,)),
    "passage_gains": ((TASK,), (0,)), "delay": ((TASK,), (0,)), "lost_with": ((TASK, 1), (0, 1)), "least_end": ((TASK,), (0,)),
    "end_holds": ((TASK, least_end(TASK)[0]), (0, 1)), "paper_shows": ((TASK, least_end(TASK)[0] - 1, least_end(TASK)[1]), (0, 1, 2)),
    "check_floor": ((NEXT, FLOOR), (0, 1)), "came_to": ((NEXT, FLOOR), (0, 1)), "rest_task": ((NEXT, FLOOR), (0, 1)), "by_floors": ((NEXT, (FLOOR,)), (0, 1)),
    "plain_journal": (((OCTETS, ()),), (0,)), "open_journal": (((OCTETS, ()),), (0,)), "journal_cuts": ((Journal(),), ()),
    "plain_book": (((OCTETS, ()),), (0,)), "new_book": ((HOUSE, 6), (0, 1)), "open_book": (((OCTETS, ()),), (0,)), "fold_length": ((BOOK,), ()),
    "space": ((BOOK,), ()),
    "alone": ((TASK, 1), (0, 1)), "alone_cut": ((TASK, 1), (0, 1)), "why": ((TASK, RUN, 1, 3), (0, 1, 2, 3)),
    "why_holds": ((TASK, RUN, 0, 2, why(TASK, RUN, 0, 2)), (0, 1, 2, 3, 4)), "yielding": ((TASK, 3, (1,), 0), (0, 1, 2, 3)), "wider": ((TASK, 3), (0, 1)),
    "narrower": ((TASK, 3), (0, 1)), "told_cut": ((TASK, 3, CUT), (0, 1, 2)),
    "task_at": ((TASK, RUN, 2), (0, 1, 2)), "most_still": ((TASK, RUN, 2, 3), (0, 1, 2, 3)), "beat_falls": ((TASK, RUN, 3), (0, 1, 2)),
    "fall_table": ((TASK, RUN), (0, 1)), "is_soonest": ((TASK, RUN), (0, 1)), "drill_papers": ((TASK, RUN, 3), (0, 1, 2)),
    "drill_holds": ((TASK, RUN, 2, drill_papers(TASK, RUN, 2)), (0, 1, 2, 3)), "first_fall": ((TASK, RUN, 3), (0, 1, 2)),
    "lost_in_all": ((TASK, RUN, 3), (0, 1, 2)),
    "best_now": ((STATE,), ()), "lot_now": ((STATE,), ()), "steps_now": ((STATE,), ()), "turned_now": ((STATE,), ()),
    "falls": ((STATE, (0, "stand", 2)), (1,)), "meaning": ((HOUSE, 6, (("found", 0, 1),)), (0, 1)),
    "house_text": ((HOUSE,), (0,)), "read_house": (("rooms .>\npassage 0 1 1 1 3",), (0,)), "drawn": ((STATE,), ()),
}

OWN = tuple([getattr(errors, name) for name in vars(errors) if name[0].isupper()])


def told(value):
    """What a result tells: objects by what they are."""
    return value if not hasattr(value, "__dict__") else (type(value), told_all(vars(value)))


def told_all(attributes):
    return tuple([(name, told(attributes[name])) for name in sorted(attributes)])


def lists_in(value):
    """The lists in a result, at every depth."""
    return [value] if isinstance(value, list) else [found for part in value for found in lists_in(part)] if isinstance(value, tuple) else []


def functions():
    """(name, function, what may be passed, where any value may stand) of all functions of the interface."""
    for module, rows in FUNCTIONS.items():
        for row in rows:
            name = row.split("(")[0]
            yield name, getattr(importlib.import_module("outsoonest." + module), name), CALLS[name][0], CALLS[name][1]


def inside(value):
    """Values that are like a good one, but for a part of it."""
    if not isinstance(value, (list, tuple)):
        return []
    found = [value[:-1], value + value[-1:], (value,), value[::-1]]
    for at, part in enumerate(value):
        if at < 4:
            others = [None, True, -1, "0", 0, 60, 10 ** 9, (), part, deep(30)] + inside(part)[:12]
            found += [value[:at] + (other,) + value[at + 1:] for other in others]
    return found


class Basics(unittest.TestCase):
    def test_all_are_told(self):
        self.assertEqual(sorted(CALLS), sorted([row.split("(")[0] for rows in FUNCTIONS.values() for row in rows]))

    def test_sequences_and_names(self):
        for name, function, args, _ in functions():
            with self.subTest(name):
                result = told(function(*args))
                self.assertFalse(lists_in(result))
                names = list(inspect.signature(function).parameters)
                self.assertTrue(same(told(function(**dict(zip(names, args)))), result))
                self.assertTrue(same(told(function(**dict(list(zip(names, args))[::-1]))), result))
                for other in (listed, mixed):
                    passed = [other(arg) for arg in args]
                    kept = copied(passed)
                    self.assertTrue(same(told(function(*passed)), result))
                    self.assertTrue(same(passed, kept))
                self.assertTrue(same(told(function(*args)), result))

    def test_any_values(self):
        for name, function, args, places in functions():
            for place in places:
                for value in STRANGE + tuple(inside(args[place])):
                    for other in (value, listed(value)):
                        passed = list(args)
                        passed[place] = other
                        kept = copied(passed)
                        with self.subTest(name, place=place, value=repr(other)[:80]):
                            try:
                                function(*passed)
                            except OWN as error:
                                self.assertIn(type(error), OWN)
                            self.assertTrue(same(passed, kept))

    def test_judges_tell_whether(self):
        for name, function, args, places in functions():
            if name.startswith(("is_", "can_")) or name.endswith(("_holds", "_hold", "_fit", "_fits", "_bars", "_shows")):
                self.assertIn(function(*args), (True, False))
                if "value" in inspect.signature(function).parameters:
                    for value in STRANGE:
                        self.assertIn(function(*args[:-1], value), (True, False))

    def test_later_changes_have_no_effect(self):
        for name, function, args, _ in functions():
            passed = listed(args)
            result = function(*passed)
            before = told(result)
            for arg in passed:
                self.spoil(arg)
            self.assertTrue(same(told(result), before), name)

    def spoil(self, value):
        if isinstance(value, list):
            for part in value:
                self.spoil(part)
            value.append(7)
            value.reverse()


if __name__ == "__main__":
    unittest.main()
