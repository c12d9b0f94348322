"""The interface: each name stands in its file, and takes its arguments by the names that are given."""

import importlib
import inspect
import unittest

from outsoonest import errors

FUNCTIONS = {
    "words": ("need_octets(value)",),
    "forms": ("is_value(value)", "is_row(value)", "write_value(value)", "write_row(row)", "value_length(value)",
              "read_value(octets, at)", "whole_value(octets)", "read_row(octets, at)", "read_rows(octets)",
              "healing(octets)"),
    "houses": ("check_house(value)", "with_smoke(house, room, beat)", "cleared(house, room)",
               "with_width(house, passage, many)", "with_shut(house, passage, low, high)",
               "with_open(house, passage, low, high)", "ways_out(house)", "passages_from(house, room)",
               "passages_to(house, room)", "is_place(house, room, beat)", "can_enter(house, passage, beat)",
               "entries(house, passage, low, high)", "soonest_alone(house, room, beat, end)",
               "last_alone(house, end)", "way_alone(house, room, beat, end)",
               "way_holds(house, room, beat, end, value)"),
    "people": ("check_people(house, value)", "need_person(people, value)", "in_order(people)",
               "is_lot_of(people, value)", "lot_ranks(people, lot)", "first_lot(people, lots)",
               "by_room(house, people, beat)", "words_of(house, people, beat)"),
    "unrolled": ("check_task(value)", "with_people(task, people)", "part_of(task, lot)", "nodes_of(task)",
                 "arcs_of(task)", "begins(task)", "goals(task)", "flow_holds(task, value)", "flow_out(task, flow)"),
    "runs": ("check_run(task, value)", "run_faults(task, run)", "run_holds(task, value)",
             "where(task, run, person, beat)", "outs(task, run)", "out_by(task, run)", "lost_of(task, run)",
             "run_flow(task, run)", "flow_run(task, flow)"),
    "flows": ("check_net(value)", "no_flow(net)", "flow_fits(net, start, goal, value)",
              "worth(net, start, goal, flow)", "cut_worth(net, lot)", "walk(net, flow, start, ends)",
              "walk_holds(net, flow, start, goal, value)", "reached(net, flow, start)", "reaching(net, flow, goal)",
              "spare(net, flow, steps)", "turned_by(net, flow, steps, many)", "led_on(net, start, goal, flow)",
              "greatest(net, start, goal)", "cuts(net, start, goal)", "unlike(net, start, goal, flow, other)"),
    "soonest": ("ends_fit(net, start, ends, value)", "brought(net, start, ends, flow)", "most_to(net, start, ends)",
                "soonest_to(net, start, ends)", "walls(net, start, ends)", "goal_net(task)", "soonest(task)",
                "soonest_flow(task)", "soonest_run(task)", "walls_of(task)"),
    "cuts": ("is_held(task, cut, person)", "held_nodes(task, cut)", "begin_outside(task, beat, cut)", "passed(task, beat, cut)",
             "cut_lets(task, beat, cut)", "cut_at(task, beat)", "cut_wide(task, beat)", "cut_holds(task, beat, value)",
             "meets(task, beat, run, cut)", "both_held(task, cut, other)", "either_held(task, cut, other)",
             "lies_within(task, beat, cut, other)"),
    "lots": ("most_out(task, beat)", "can_be_out(task, beat, lot)", "first_out(task, beat)", "left_papers(task, beat)",
             "added(task, beat, lot, other)", "crowd_holds(task, beat, value)"),
    "crowds": ("most_from(house, now, beat, rooms)", "crowd_can(house, now, beat, crowd)", "crowd_paper(house, now, beat, crowd)",
               "crowd_bars(house, now, beat, crowd, value)", "fullest(house, now, beat, order)"),
    "joined": ("both(task)", "both_flow(task)", "both_holds(task, lot, flow)", "people_of(task, flow)", "swapped(task, flow, lot)",
               "joined(task)"),
    "ways": ("exchanged(task, run, one, other, beat)", "queued(task, run)", "is_queued(task, run)", "longest_stands(task, run)",
             "ways(task, flow)", "ways_hold(task, flow, value)", "plan(task)", "plan_holds(task, value)"),
    "news": ("check_news(value)", "is_news(value)"),
    "state": ("start(house, end)", "follow(state, row)", "state_of(house, end, rows)", "task_of(state)", "steps_told(state)",
              "with_word(state, word)", "out_till(state, beat)"),
    "led": ("behind(task, run)", "kept_run(task, run)", "led_best(task, flow)", "led_run(task, run)"),
    "turned": ("check_told(task, value)", "steps_of_run(task, run)", "turned_by_run(task, steps, run)", "is_best(task, value)",
               "turn_net(task, steps)", "fewest_turned(task, steps)", "prices_worth(task, steps, prices)",
               "prices_hold(task, steps, number, value)"),
    "whatif": ("without_passage(task, passage)", "with_wider(task, passage)", "with_later(task)", "passage_falls(task)",
               "passage_gains(task)", "delay(task)", "lost_with(task, passage)", "least_end(task)", "end_holds(task, value)",
               "paper_shows(task, end, value)"),
    "floors": ("check_floor(task, value)", "came_to(task, floor)", "rest_task(task, floor)", "by_floors(task, floors)"),
    "journals": ("plain_journal(pages)", "open_journal(pages)", "journal_cuts(journal)"),
    "book": ("plain_book(pages)", "new_book(house, end)", "open_book(pages)", "fold_length(book)", "space(book)"),
    "reasons": ("alone(task, person)", "alone_cut(task, person)", "why(task, run, person, beat)",
                "why_holds(task, run, person, beat, value)", "yielding(task, beat, lot, person)", "wider(task, beat)",
                "narrower(task, beat)", "told_cut(task, beat, cut)"),
    "drills": ("task_at(task, run, beat)", "most_still(task, run, beat, till)", "beat_falls(task, run, till)", "fall_table(task, run)",
               "is_soonest(task, run)", "drill_papers(task, run, till)", "drill_holds(task, run, till, value)",
               "first_fall(task, run, till)", "lost_in_all(task, run, till)"),
    "meaning": ("best_now(state)", "lot_now(state)", "steps_now(state)", "turned_now(state)", "falls(state, steps)",
                "meaning(house, end, rows)"),
    "drawing": ("house_text(house)", "read_house(text)", "drawn(state)"),
}

# By module and class the methods that stand in the body of the class.
METHODS = {
    ("journals", "Journal"): ("__init__(self)", "lay(self, row)", "keep(self)", "loose(self)", "begin(self, rows)", "cut(self, left)"),
    ("book", "Book"): ("both_pages(self)", "tell(self, row)", "tell_cut(self, row, left)", "fold(self)", "fold_cut(self, left)"),
    ("world", "World"): ("__init__(self, house, end)", "hear(self, row)", "tell(self)", "go(self, steps=None)", "reopen(self)",
                         "came_out(self)"),
    ("desk", "Desk"): ("__init__(self, house, end)", "say(self, line)"),
}

ATTRIBUTES = {
    "BadOctets": "at", "BadForm": "at", "BadHouse": "at", "BadPeople": "at", "BadRow": "at", "BadText": "at",
    "Refused": "at", "TooGreat": "most", "Broken": "at", "NotLet": "word", "NoRoom": "room",
    "NoPassage": "passage", "NoPerson": "person", "NoBeat": "beat",
}


class Interface(unittest.TestCase):
    def test_functions(self):
        for name, rows in FUNCTIONS.items():
            module = importlib.import_module("outsoonest." + name)
            for row in rows:
                with self.subTest(module=name, function=row):
                    word = row.split("(")[0]
                    function = getattr(module, word)
                    self.assertEqual(function.__module__, module.__name__)
                    self.assertEqual(word + str(inspect.signature(function)), row)


    def test_methods(self):
        for (name, word), rows in METHODS.items():
            module = importlib.import_module("outsoonest." + name)
            found = getattr(module, word)
            self.assertEqual(found.__module__, module.__name__)
            for row in rows:
                with self.subTest(module=name, method=row):
                    method = row.split("(")[0]
                    self.assertIn(method, vars(found))
                    self.assertEqual(method + str(inspect.signature(vars(found)[method])), row)


class Errors(unittest.TestCase):
    """[4]."""

    def test_bases(self):
        self.assertEqual(errors.OutError.__bases__, (ValueError,))
        for word, attribute in ATTRIBUTES.items():
            base = KeyError if word in ("NoRoom", "NoPassage", "NoPerson", "NoBeat") else errors.OutError
            self.assertEqual(getattr(errors, word).__bases__, (base,), word)
            self.assertEqual(getattr(errors, word).__module__, "outsoonest.errors")
        self.assertIsInstance(errors.OutError("x"), ValueError)

    def test_arguments_are_kept(self):
        for word, attribute in ATTRIBUTES.items():
            for value in (0, True, None, "word", [1, [2]], (3,), errors.NoBeat([4]), {}):
                error = getattr(errors, word)
                self.assertIs(getattr(error(value), attribute), value)
                self.assertIs(getattr(error(**{attribute: value}), attribute), value)
                with self.assertRaises(error) as caught:
                    raise error(value)
                self.assertIs(getattr(caught.exception, attribute), value)
                self.assertIsInstance(str(error(value)), str)


if __name__ == "__main__":
    unittest.main()
