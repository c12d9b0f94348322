"""The examples of the document, just as they stand there, and those of the README."""

import doctest
import pathlib
import unittest

FORMS = """
>>> from outsoonest.forms import healing, read_rows, read_value, value_length, write_row, write_value
>>> write_value([None, -3, "ab"]), value_length(256 ** 2)
((4, 1, 3, 0, 2, 1, 2, 3, 1, 2, 0, 1), 5)
>>> octets = write_row(("told", (None, 3))) + (4, 1, 2, 3)
>>> read_value((9, 9) + octets, 2), read_rows(octets), healing(octets)
((('told', (None, 3)), 19), ((('told', (None, 3)),), 17), (0, 0))
"""

HOUSES = """
>>> from outsoonest.houses import last_alone, soonest_alone, way_alone, way_holds, with_shut
>>> house = ((0, 0, 1), ((0, 1, 1, 1, ()), (1, 2, 2, 1, (3,)), (0, 2, 5, 1, ())), (None, 6, None))
>>> soonest_alone(house, 0, 0, 9), way_alone(house, 0, 0, 9), last_alone(house, 6)
((0, 1, 3), ((0, 0), (1, 1)), (3, 4, 6))
>>> last_alone(with_shut(house, 1, 4, 5), 6), way_holds(house, 0, 0, 9, [[2, 1]]), way_alone(house, 1, 5, 7)
((1, 2, 6), True, ((1, 5),))
"""

PEOPLE = """
>>> from outsoonest.people import by_room, first_lot, in_order, lot_ranks, words_of
>>> house = ((0, 0, 1), ((0, 1, 1, 1, ()), (1, 2, 2, 1, (3,))), (None, 6, None))
>>> people = ((0, 0, 2), (1, 4, 0), (2, 0, 5), (1, 0, 2))
>>> in_order(people), lot_ranks(people, (0, 2)), first_lot(people, [(0, 2, 3), (1,), (1, 3)])
((1, 0, 3, 2), (1, 0, 1, 0), (1, 3))
>>> by_room(house, people, 3), words_of(house, people, 3), words_of(house, people, 6)
((1, 1, 1), ('there', 'within', 'out', 'there'), ('there', 'lost', 'out', 'lost'))
"""

UNROLLED = """
>>> from outsoonest.runs import lost_of, out_by, outs, run_faults, where
>>> from outsoonest.unrolled import begins, goals
>>> house = ((0, 0, 1), ((0, 1, 1, 2, ()), (1, 2, 1, 1, (2,))), (3, None, None))
>>> task, run = (house, ((0, 0, 0), (0, 0, 1), (1, 1, 0)), 0, 4), [[(0, 0), (1, 1)], [(0, 0), (1, 3)], [(1, 4)]]
>>> outs(task, run), out_by(task, run), where(task, run, 1, 2), where(task, run, 2, 0)
((2, 4, None), (0, 0, 1, 1, 2), ('room', 1), ('within', None, 1))
>>> run_faults(task, [[(0, 0), (1, 2)], [(0, 3)], []]), lost_of(task, [[], [], []])
((('entry', 0, 1), ('entry', 1, 0)), (0, 1))
>>> begins(task), goals(task)
((0, 0, 4), ((2,), (5,), (8,), (10,), (12,)))
"""

FLOWS = """
>>> from outsoonest.flows import cut_worth, cuts, greatest, led_on, reached, spare, turned_by, unlike, walk, worth
>>> net = (4, ((0, 1, 2), (0, 2, 1), (1, 2, None), (1, 3, 1), (2, 3, 2)))
>>> worth(net, 0, 3, greatest(net, 0, 3)), cuts(net, 0, 3), cut_worth(net, (0, 1)), cut_worth(net, (0, 2))
(3, ((0,), (0, 1, 2)), None, 4)
>>> load = (2, 0, 2, 0, 2)
>>> walk(net, load, 2, [3, 1]), reached(net, (2, 1, 1, 1, 2), 0), spare(net, load, [(2, -1), (3, 1)])
(((2, -1), (3, 1)), (0,), 1)
>>> turned_by(net, load, ((2, -1), (3, 1)), 1), led_on(net, 0, 3, (1, 0, 1, 0, 1))
((2, 0, 1, 1, 2), (2, 1, 1, 1, 2))
>>> unlike((2, ((0, 1, 5),)), 0, 1, (1,), (4,))
((3, ((0, 1),)),)
"""

SOONEST = """
>>> from outsoonest.soonest import brought, goal_net, most_to, soonest, soonest_run, soonest_to, walls, walls_of
>>> net = (4, ((0, 1, 2), (1, 2, 1), (1, 3, None), (0, 3, 1)))
>>> most_to(net, 0, (2, 3)), most_to(net, 0, [3, 2]), walls(net, 0, (2, 3))
((1, 3), (3, 3), ((0, 1, 3), (0,)))
>>> brought(net, 0, (2, 3), soonest_to(net, 0, (2, 3))), soonest_to((2, ((0, 1, None),)), 0, [1])
((1, 2), None)
>>> house = ((0, 1), ((0, 1, 2, 1, ()),), (None, None))
>>> task = (house, ((0, 0, 1), (0, 0, 1)), 0, 4)
>>> soonest(task), walls_of(task)[2:], goal_net((house, (), 0, 0))
((0, 0, 1, 2, 2), ((0, 2, 4, 6, 7, 8, 9), (), ()), ((5, ((1, 3, None), (3, 4, None))), 2, (), (3,), 4))
>>> sorted(soonest_run(task))
[((0, 0),), ((0, 1),)]
"""

CUTS = """
>>> from outsoonest.cuts import begin_outside, cut_at, cut_lets, cut_wide, either_held, meets, passed
>>> house = ((0, 0, 1), ((0, 1, 1, 2, ()), (1, 2, 1, 1, (2,))), (3, None, None))
>>> task, run = (house, ((0, 0, 0), (0, 0, 1), (1, 1, 0)), 0, 4), [[(0, 0), (1, 1)], [(0, 0), (1, 3)], [(1, 4)]]
>>> cut_at(task, 2), cut_wide(task, 2), cut_at(task, 4), passed(task, 4, (0, 1, None)), meets(task, 4, run, cut_at(task, 4))
((0, 1, None), (0, 1, None), (0, 1, None), ((1, 1, 1), (1, 3, 1)), True)
>>> begin_outside(task, 4, (None, 1, None)), cut_lets(task, 4, (None, 1, None)), either_held(task, (None, 1, None), (2, None, None))
((0, 1), 4, (2, 1, None))
"""

LOTS = """
>>> from outsoonest.crowds import crowd_can, crowd_paper, fullest, most_from
>>> from outsoonest.lots import can_be_out, crowd_holds, first_out, left_papers, most_out
>>> house = ((0, 0, 1, 0), ((1, 0, 1, 1, ()), (0, 2, 1, 1, ()), (3, 0, 1, 2, ()), (3, 2, 4, 1, ())), (None,) * 4)
>>> task = (house, ((1, 0, 2), (1, 0, 0), (3, 0, 1), (3, 0, 0)), 0, 5)
>>> most_out(task, 3), first_out(task, 3), first_out(task, 4), can_be_out(task, 3, (0, 2))
(2, (1, 3), (0, 1, 2, 3), True)
>>> [person for person, paper in left_papers(task, 3)], crowd_holds(task, 3, ("crowd", (0, 1, 3), (1, 0, None, 0)))
([2, 0], True)
>>> most_from(house, 0, 4, (1, 3)), crowd_can(house, 0, 4, (0, 2, 0, 2)), crowd_paper(house, 0, 4, (0, 5, 0, 0)), fullest(house, 0, 4, (3, 1))
(4, True, (1,), (0, 0, 0, 4))
"""

JOINED = """
>>> from outsoonest.joined import both, both_flow, both_holds, joined, people_of
>>> from outsoonest.soonest import soonest
>>> from outsoonest.unrolled import part_of
>>> house = ((0, 0, 1, 0), ((1, 0, 1, 1, ()), (0, 2, 1, 1, ()), (3, 0, 1, 2, ()), (3, 2, 4, 1, ())), (None,) * 4)
>>> task = (house, ((1, 0, 2), (1, 0, 0), (3, 0, 1), (3, 0, 0)), 0, 3)
>>> soonest(task), both(task), both_holds(task, (1, 3), both_flow(task)), people_of(task, joined(task)[1])
((0, 0, 1, 2), ((1, 3), (0, 0, 1, 2)), True, (1, 3))
"""

WAYS = """
>>> from outsoonest.runs import out_by, outs
>>> from outsoonest.ways import exchanged, is_queued, longest_stands, plan, plan_holds, queued
>>> house = ((0, 0, 1), ((0, 1, 1, 1, ()), (1, 2, 1, 1, ())), (None, None, None))
>>> task, run = (house, ((1, 0, 5), (0, 0, 0)), 0, 4), (((1, 1),), ((0, 0), (1, 2)))
>>> exchanged(task, run, 0, 1, 1), is_queued(task, run), longest_stands(task, run)
((((1, 2),), ((0, 0), (1, 1))), True, (0, 1, None))
>>> plan(task), outs(task, plan(task)[1]), plan_holds(task, ((0, 1), run))
(((0, 1), (((1, 0),), ((0, 0), (1, 1)))), (1, 2), False)
"""

STATE = """
>>> from outsoonest.state import follow, out_till, start, state_of, steps_told, task_of, with_word
>>> house = ((0, 0, 1), ((0, 1, 1, 1, ()), (1, 2, 2, 2, (0,)), (0, 2, 4, 1, ())), (None, None, None))
>>> rows = [("found", 0, 1), ("found", 1, 0), ("told", (0, "stand")), ("beat", (0, "stand")), ("smoke", 0, 3)]
>>> state = state_of(house, 9, rows)
>>> state[3], task_of(state)[1][2:], steps_told(state)
((('here', 1, 1, 1), ('here', 1, 1, 0)), (1, 9), (None, None))
>>> state = follow(follow(state, ("beat", (1, "stand"))), ("smoke", 1, 2))
>>> state[3], task_of(state)[0], with_word(state, "lost")
((('here', 2, 3, 1), ('lost', 1, 2, 0)), (0,), (1,))
>>> out_till(follow(state, ("beat", (None, None))), 3)
1
"""

LED = """
>>> from outsoonest.led import behind, kept_run, led_run
>>> from outsoonest.runs import out_by
>>> house = ((0, 1), ((0, 1, 1, 1, ()), (0, 1, 2, 1, ())), (None, None))
>>> task = (house, ((0, 0, 1), (0, 0, 0)), 0, 4)
>>> run = (((0, 0),), ((1, 0),))
>>> later, rest = behind(task, run)
>>> later[1:], rest, kept_run(task, [[(0, 0)], [(0, 0)]]), out_by(task, led_run(task, [[(1, 3)], [(1, 2)]]))
((((1, 1, 1), (1, 2, 0)), 1, 4), ((), ()), ((), ((0, 0),)), (0, 1, 2, 2, 2))
"""

TURNED = """
>>> from outsoonest.turned import fewest_turned, is_best, prices_hold, steps_of_run, turned_by_run
>>> house = ((0, 1), ((0, 1, 1, 1, ()), (0, 1, 1, 1, ())), (None, None))
>>> task = (house, ((0, 0, 1), (0, 0, 0), (0, 0, 2)), 0, 2)
>>> number, run, prices = fewest_turned(task, ("stand", 1, 1))
>>> number, is_best(task, run), turned_by_run(task, ("stand", 1, 1), run), steps_of_run(task, run)
(1, True, (2,), ('stand', 1, 0))
>>> prices_hold(task, ("stand", 1, 1), 1, prices), prices_hold(task, ("stand", 1, 1), 2, prices)
(True, False)
"""

WHATIF = """
>>> from outsoonest.whatif import delay, least_end, lost_with, paper_shows, passage_falls, passage_gains
>>> house = ((0, 0, 1), ((0, 2, 1, 1, ()), (0, 1, 1, 1, ()), (1, 2, 1, 2, ())), (None, None, None))
>>> task = (house, ((0, 0, 0), (0, 0, 1), (0, 0, 2)), 0, 2)
>>> passage_falls(task), passage_gains(task), delay(task), lost_with(task, 0)
(((0, 1, 2), (0, 0, 1), (0, 0, 1)), ((0, 1, 0), (0, 0, 0), (0, 0, 0)), (0, 1, 2), ((1, 2), ()))
>>> end, paper = least_end((house, task[1], 0, 0))
>>> end, paper[0], paper_shows(task, 1, paper)
(2, 1, True)
"""

FLOORS = """
>>> from outsoonest.floors import by_floors, came_to, rest_task
>>> from outsoonest.soonest import soonest
>>> tower = ((0, 0, 0, 1), ((0, 1, 2, 2, ()), (1, 2, 1, 1, ()), (2, 3, 1, 1, ())), (None,) * 4)
>>> task = (tower, ((0, 0, 0), (0, 0, 0), (1, 0, 0)), 0, 6)
>>> came_to(task, ((0, 1), 1)), rest_task(task, ((0, 1), 1))[1]
((1, 1, 3, 3, 3, 3, 3), ((1, 0, 0), (1, 2, 0), (1, 2, 0)))
>>> by_floors(task, [((0, 1), 1), ((0, 1, 2), 2)]) == soonest(task), soonest(task)
(True, (0, 0, 1, 1, 2, 3, 3))
"""

BOOK = """
>>> from outsoonest.book import new_book, open_book
>>> book = new_book(((0, 1), ((0, 1, 1, 2, ()),), (None, None)), 5)
>>> book.tell(("found", 0, 1)), book.tell(("smoke", 0, 3)), book.tell_cut(("clear", 0), 0), book.tell(("beat", [0]))
(2, 3, False, 4)
>>> book.fold_cut(9), book.fold(), len(book.journal.told), open_book(book.both_pages()).state == book.state
(False, None, 1, True)
"""

REASONS = """
>>> from outsoonest.reasons import alone, narrower, told_cut, why, wider, yielding
>>> house = ((0, 0, 1), ((0, 1, 1, 1, ()), (1, 2, 1, 1, ())), (None, None, None))
>>> task, run = (house, ((0, 0, 1), (0, 0, 0)), 0, 5), [((0, 1), (1, 2)), ((0, 0), (1, 1))]
>>> why(task, run, 1, 2), why(task, run, 0, 2)[:2], why(task, run, 0, 1)[0], alone(task, 0)
(('out', 2), ('instead', (1,)), 'never', 2)
>>> told_cut(task, 2, (0, 2, None)), yielding(task, 2, (1,), 0), wider(task, 2), narrower(task, 2)
((('enter', 0, 0, 1),), (1,), (), ((0, 0), (1, 1)))
"""

OVERVIEW = """
>>> from outsoonest.desk import Desk
>>> desk = Desk(((0, 1), ((0, 1, 1, 1, ()),), (4, None)), 6)
>>> [desk.say(line) for line in ("found 0 1", "found 0 0", "best", "lot", "tell s 0")]
['person 0', 'person 1', '0 1 2 2 2 2 2', '0 1', 'told s 0']
"""

DRILLS = """
>>> from outsoonest.drills import beat_falls, drill_holds, drill_papers, first_fall, is_soonest, lost_in_all, task_at
>>> house = ((0, 0, 1), ((0, 1, 1, 2, ()), (1, 2, 1, 1, ())), (None, None, None))
>>> task, late = (house, ((0, 0, 0), (0, 0, 1)), 0, 4), [[(0, 1), (1, 2)], [(0, 2)]]
>>> task_at(task, late, 2), beat_falls(task, late, 3), beat_falls(task, late, 4), first_fall(task, late, 4), lost_in_all(task, late, 4)
((((0, 0, 1), ((0, 1, 1, 2, ()), (1, 2, 1, 1, ())), (None, None, None)), ((1, 2, 0), (0, 2, 1)), 2, 4), (1, 0, 0), (0, 0, 0, 1), 3, 1)
>>> is_soonest(task, [[(0, 0), (1, 1)], [(0, 0), (1, 2)]]), drill_holds(task, late, 4, drill_papers(task, late, 4))
(True, True)
"""

WHOLE = """
>>> from outsoonest.world import World
>>> from outsoonest.meaning import best_now, falls, lot_now, steps_now, turned_now
>>> world = World(((0, 0, 1, 0), ((1, 0, 1, 1, ()), (0, 2, 1, 1, ()), (3, 0, 1, 2, ()), (3, 2, 4, 1, ())), (None,) * 4), 6)
>>> [world.hear(("found", room, urgency)) for room, urgency in ((1, 2), (1, 0), (3, 1), (3, 0))]
[2, 3, 4, 5]
>>> best_now(world.book.state), lot_now(world.book.state), world.tell() == steps_now(world.book.state), turned_now(world.book.state)
((0, 0, 1, 2, 4, 4, 4), (0, 1, 2, 3), True, 0)
>>> falls(world.book.state, ("stand",) * 4), world.hear(("smoke", 0, 3)), best_now(world.book.state)
((0, 1, 1, 2, 0, 0), 7, (0, 0, 1, 2, 3, 4, 4))
"""

DESK = """
>>> from outsoonest.desk import Desk
>>> from outsoonest.drawing import house_text, read_house
>>> house = read_house("rooms ..>\\npassage 0 1 1 1 -\\npassage 1 2 1 1 3,4\\nsmoke 0 5")
>>> house[1:], house_text(house) == "rooms ..>\\npassage 0 1 1 1 -\\npassage 1 2 1 1 3,4\\nsmoke 0 5"
((((0, 1, 1, 1, ()), (1, 2, 1, 1, (3, 4))), (5, None, None)), True)
>>> desk = Desk(house, 8)
>>> [desk.say(line) for line in ("found 0 2", "found 0 0", "best", "lot", "tell s 0", "go", "go s 1", "clear 2")]
['person 0', 'person 1', '0 0 1 2 2 2 2 2 2', '0 1', 'told s 0', 'beat 1', 'beat 2', 'refused']
>>> desk.say("draw").split("\\n")
['beat 2 of 8', '0 . 2 - 0', '1 . - - 0', '2 > 0 - 0', '0 0>1 1 1 open', '1 1>2 1 1 open', 'told - -']
"""

EXAMPLES = {"forms": FORMS, "houses": HOUSES, "people": PEOPLE, "unrolled": UNROLLED, "flows": FLOWS, "soonest": SOONEST, "cuts": CUTS,
            "lots": LOTS, "joined": JOINED, "ways": WAYS, "state": STATE, "led": LED, "turned": TURNED,
            "whatif": WHATIF, "floors": FLOORS, "book": BOOK, "reasons": REASONS,
            "overview": OVERVIEW, "drills": DRILLS, "whole": WHOLE, "desk": DESK}


class Examples(unittest.TestCase):
    def test_examples(self):
        readme = pathlib.Path(__file__).parent.parent / "README.md"
        for name, text in dict(EXAMPLES, readme=readme.read_text("ascii")).items():
            with self.subTest(name):
                test = doctest.DocTestParser().get_doctest(text, {}, name, None, 0)
                told = []
                result = doctest.DocTestRunner().run(test, out=told.append)
                self.assertGreater(result.attempted, 2)
                self.assertEqual(result.failed, 0, "".join(told))


if __name__ == "__main__":
    unittest.main()
