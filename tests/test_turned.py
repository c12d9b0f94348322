"""Steps of this beat, best plans, the net of these, and prices: [52] to [55]."""

import itertools
import random
import time
import unittest

from outsoonest.errors import Refused
from outsoonest.led import behind
from outsoonest.lots import first_out
from outsoonest.runs import out_by, outs, run_flow, run_holds
from outsoonest.soonest import soonest
from outsoonest.turned import (check_told, fewest_turned, is_best, prices_hold, prices_worth, steps_of_run, turn_net,
                               turned_by_run)
from outsoonest.unrolled import arcs_of, begins, goals, nodes_of
from outsoonest.ways import plan
from tests.draws import all_runs, first_of_all, great_task, lots_out, most_by_beat, out_beats, small_task, smoky
from tests.helping import STRANGE, Case
from tests.test_runs import FAULTY, NO_RUNS, RUN
from tests.test_unrolled import NO_TASKS, TASK

HOUSE = ((0, 1), ((0, 1, 1, 1, ()), (0, 1, 1, 1, ())), (None, None))
THREE = (HOUSE, ((0, 0, 1), (0, 0, 0), (0, 0, 2)), 0, 2)
STEPS = ("stand", 1, 1)

# TASK has two passages; persons 0 and 1 are in a room now, person 2 comes a beat later.
NO_STEPS = STRANGE + ((), (None, None), (None,) * 4, (None, None, 0), (None, None, "stand"), (2, None, None), (None, 59, None),
                      (-1, None, None), (True, None, None), (None, False, None), ("Stand", None, None), ("", None, None),
                      (None, (), None), ((0,), None, None), ("0", None, None), "stand", ("stand",), (10 ** 30, None, None))


def steps_in(task, person):
    """All steps that can be told to a person, but None."""
    house, people, now, end = task
    room, beat, _ = people[person]
    if beat != now or now == end or house[0][room] or smoky(house, room, now):
        return []
    return ["stand"] + list(range(len(house[1])))


def steps_done(task, run):
    """By person what they do in this beat by a run."""
    return tuple([None if not steps_in(task, person) else
                  ([passage for passage, beat in run[person] if beat == task[2]] + ["stand"])[0] for person in range(len(run))])


def busy_task(draw):
    """A small task in which several are in rooms now that lead out, one at a time, and all its runs."""
    while True:
        rows = [draw.choice(((0, 2), (0, 2), (1, 2), (0, 1))) + (draw.choice((1, 1, 2)), 1, draw.choice(((), (), (0,), (1,))))
                for _ in range(draw.randint(2, 4))]
        people = tuple([(draw.choice((0, 0, 1)), draw.choice((0, 0, 0, 1)), draw.randrange(3)) for _ in range(draw.randint(2, 4))])
        task = (((0, 0, 1), tuple(rows), (draw.choice((None, None, 2)), None, None)), people, 0, draw.randint(1, 3))
        runs = all_runs(task, 3000)
        if runs is not None:
            return task, runs


def draw_told(draw, task):
    return tuple([draw.choice([None] + steps_in(task, person) * 2) for person in range(len(task[1]))])


def best_plans(task, runs):
    """All runs by which just the first lot is out, and by every beat as many as under any."""
    told = [out_beats(task, run) for run in runs]
    lot = first_of_all(task, lots_out(told, len(task[1]), task[3]))
    most = most_by_beat(task, told)
    return lot, most, [run for run, row in zip(runs, told) if tuple([at for at, beat in enumerate(row) if beat is not None]) == lot
                       and most_by_beat(task, [row]) == most]


def turned_in(task, steps, lot, run):
    return tuple([person for person in lot if steps[person] is not None and steps[person] != steps_done(task, run)[person]])


class Refusing(Case):
    def test_tasks(self):
        for value in NO_TASKS:
            for call, more in ((check_told, (None,)), (steps_of_run, (None,)), (turned_by_run, (None, None)), (is_best, (None,)),
                               (fewest_turned, (None,)), (turn_net, (None,)), (prices_worth, (None, None)),
                               (prices_hold, (None, None, None))):
                self.told(Refused, value, call, value, *more)

    def test_steps(self):
        for value in NO_STEPS:
            for call, more in ((check_told, ()), (turned_by_run, (None,)), (fewest_turned, ()), (turn_net, ()), (prices_worth, (None,)),
                               (prices_hold, (None, None))):
                self.told(Refused, value, call, TASK, value, *more)

    def test_runs(self):
        for value in NO_RUNS + tuple([run for run, _ in FAULTY]):
            self.told(Refused, value, steps_of_run, TASK, value)
            self.told(Refused, value, turned_by_run, TASK, (None,) * 3, value)
            self.gives(False, is_best, TASK, value)

    def test_prices(self):
        many = turn_net(THREE, STEPS)[0]
        bad = STRANGE + ((), (0,) * (many - 1), (0,) * (many + 1), (0,) * (many - 1) + (True,), (None,) * many, ("0",) * many, 0,
                         ((0,),) * many, (0,) * (many - 1) + ((),))
        self.refuses(Refused, prices_worth, (THREE, STEPS, ()), 2, bad)
        number, _, prices = fewest_turned(THREE, STEPS)
        for value in bad:
            self.gives(False, prices_hold, THREE, STEPS, 0, value)
        for value in STRANGE + ("1", (1,), -1):
            self.gives(False, prices_hold, THREE, STEPS, value, prices)
        for value, told in ((0, True), (number, True), (number + 1, False), (10 ** 12, False)):
            self.gives(told, prices_hold, THREE, STEPS, value, prices)


class Steps(Case):
    """[52]."""

    def test_check_told(self):
        for steps in ((None,) * 3, ("stand", "stand", None), (0, 1, None), (1, None, None)):
            self.gives(steps, check_told, TASK, steps)
        self.gives((), check_told, (HOUSE, (), 0, 2), ())
        self.gives(STEPS, check_told, THREE, STEPS)
        # None alone: at the end, in a way out, in smoke, to come.
        house = ((0, 1, 0), ((0, 1, 1, 1, ()),), (None, None, 1))
        people = ((0, 1, 0), (1, 1, 0), (2, 1, 0), (0, 2, 0))
        for person in range(4):
            for step in ("stand", 0):
                steps = [None] * 4
                steps[person] = step
                if person == 0:
                    self.gives(tuple(steps), check_told, (house, people, 1, 2), steps)
                else:
                    self.told(Refused, steps, check_told, (house, people, 1, 2), steps)
                self.told(Refused, steps, check_told, (house, people, 1, 1), steps)
        self.gives((None,) * 4, check_told, (house, people, 1, 1), (None,) * 4)
        # Steps that cannot be: shut, of no width, out of another room, into smoke.
        house = ((0, 0, 1), ((0, 2, 1, 1, (0,)), (0, 2, 1, 0, ()), (1, 2, 1, 1, ()), (0, 1, 1, 1, ())), (None, 0, None))
        for step in range(4):
            self.gives((step,), check_told, (house, ((0, 0, 0),), 0, 4), (step,))

    def test_steps_of_run(self):
        self.gives((0, 0, None), steps_of_run, TASK, RUN)
        self.gives(("stand", "stand", None), steps_of_run, TASK, ((), ((0, 1),), ((1, 1),)))
        self.gives((), steps_of_run, (HOUSE, (), 0, 2), ())
        self.gives((None,), steps_of_run, (HOUSE, ((0, 2, 0),), 2, 2), (((0, 2),),))

    def test_turned_by_run(self):
        self.gives((), turned_by_run, TASK, (None,) * 3, RUN)
        self.gives((0,), turned_by_run, TASK, ("stand", 0, None), RUN)
        self.gives((0, 1), turned_by_run, TASK, (1, "stand", None), RUN)
        # Who is not out by the end is none of them.
        self.gives((0,), turned_by_run, TASK, (1, 1, None), (RUN[0], ((0, 0),), ()))

    def test_all_runs(self):
        draw = random.Random(161)
        for _ in range(80):
            task, runs = small_task(draw, people=3)
            for run in draw.sample(runs, min(len(runs), 8)):
                self.gives(steps_done(task, run), steps_of_run, task, run)
                steps = draw_told(draw, task)
                self.gives(steps, check_told, task, steps)
                lot = [person for person, beat in enumerate(out_beats(task, run)) if beat is not None]
                self.gives(turned_in(task, steps, lot, run), turned_by_run, task, steps, run)


class Fewest(Case):
    """[53]."""

    def check_fewest(self, task, steps, lot, numbers):
        told = fewest_turned(task, steps)
        if len(task[1]) < 9:
            self.gives(told, fewest_turned, task, steps)
        number, run, prices = told
        self.assertTrue(run_holds(task, run) and is_best(task, run))
        self.assertEqual(tuple([at for at, beat in enumerate(outs(task, run)) if beat is not None]), lot)
        self.assertEqual(out_by(task, run), numbers)
        self.assertFalse([row for person, row in enumerate(run) if row and person not in lot])
        self.assertEqual(len(turned_by_run(task, steps, run)), number)
        self.assertTrue(all(-900 <= price <= 900 for price in prices))
        self.assertEqual(prices_worth(task, steps, prices), number)
        self.assertIs(prices_hold(task, steps, number, prices), True)
        self.assertIs(prices_hold(task, steps, number + 1, prices), False)
        return number

    def test_small(self):
        self.assertEqual(self.check_fewest(THREE, STEPS, (0, 1, 2), (0, 2, 3)), 1)
        for steps, number in (((None,) * 3, 0), (("stand",) * 3, 2), ((0, 0, 0), 2), ((0, 1, "stand"), 0), ((None, "stand", None), 0)):
            self.assertEqual(self.check_fewest(THREE, steps, (0, 1, 2), (0, 2, 3)), number)
        self.gives(True, is_best, THREE, (((0, 0),), ((1, 0),), ((1, 1),)))
        self.gives(False, is_best, THREE, (((0, 0),), ((1, 0),), ()))
        self.gives(False, is_best, THREE, (((0, 0),), ((0, 1),), ((1, 1),)))

    def test_edges(self):
        nobody = (HOUSE, (), 1, 3)
        self.assertEqual(self.check_fewest(nobody, (), (), (0, 0, 0)), 0)
        # Now equal to end.
        self.assertEqual(self.check_fewest((HOUSE, ((0, 2, 0), (1, 2, 0)), 2, 2), (None, None), (1,), (1,)), 0)
        self.assertEqual(self.check_fewest((HOUSE, (), 59, 59), (), (), (0,)), 0)
        # Told steps that cannot be turn whoever is saved.
        house = ((0, 0, 1), ((0, 2, 1, 1, (0,)), (0, 2, 1, 0, ()), (1, 2, 1, 1, ()), (0, 2, 2, 1, ()), (0, 1, 1, 1, ())), (None, 1, None))
        task = (house, ((0, 0, 0), (1, 0, 0), (1, 0, 5), (2, 0, 0), (0, 1, 1)), 0, 2)
        for step, number in ((0, 1), (1, 1), (2, 1), (4, 1), (3, 0), ("stand", 1), (None, 0)):
            self.assertEqual(self.check_fewest(task, (step, 2, 2, None, None), (0, 1, 3, 4), (1, 2, 4)), number)
        # Whoever stands on would be in smoke.
        task = (((0, 1), ((0, 1, 1, 9, ()), (0, 1, 2, 9, ())), (1, None)), ((0, 0, 0), (0, 0, 1)), 0, 2)
        for steps, number in ((("stand", 0), 1), ((1, "stand"), 2), ((None, 1), 1), ((0, 0), 0)):
            self.assertEqual(self.check_fewest(task, steps, (0, 1), (0, 2, 2)), number)

    def test_all_runs(self):
        draw = random.Random(162)
        found = {}
        for at in range(100):
            task, runs = small_task(draw, people=4) if at % 2 else busy_task(draw)
            lot, most, best = best_plans(task, runs)
            for run in draw.sample(runs, min(len(runs), 8)):
                self.gives(run in best, is_best, task, run)
            for _ in range(3):
                steps = draw_told(draw, task)
                number = min(len(turned_in(task, steps, lot, run)) for run in best)
                self.assertEqual(self.check_fewest(task, steps, lot, most), number)
                found[number] = found.get(number, 0) + 1
        self.assertGreater(found[1], 40)
        self.assertGreater(found[2], 10)

    def test_a_best_plan_turns_nobody_who_was_told_it(self):
        draw = random.Random(163)
        for seed in range(3):
            task = great_task(seed, people=20, end=30, crowded=seed % 2 == 0)
            lot, run = plan(task)
            steps = steps_of_run(task, run)
            self.assertEqual(self.check_fewest(task, steps, lot, soonest(task)), 0)
            wrong = [draw.choice((None, step, "stand")) if step is not None else None for step in steps]
            number = self.check_fewest(task, wrong, lot, soonest(task))
            self.assertLessEqual(number, len(turned_by_run(task, wrong, run)))
            later, rest = behind(task, fewest_turned(task, wrong)[1])
            self.assertTrue(is_best(later, rest))

    def test_great(self):
        began = time.monotonic()
        for crowded in (False, True):
            for people, end in ((20, 30), (60, 59)):
                task = great_task(164, people=people, end=end, crowded=crowded)
                draw = random.Random(165)
                steps = draw_told(draw, task)
                number = self.check_fewest(task, steps, first_out(task, end), soonest(task))
                self.assertGreater(number, 0)
                prices = tuple([draw.randint(-1000, 1000) for _ in range(turn_net(task, steps)[0])])
                self.assertEqual(prices_worth(task, steps, prices), worth_by_hand(turn_net(task, steps), prices))
        self.assertLess(time.monotonic() - began, 60)


def net_by_hand(task, steps, lot, numbers):
    """The net of best plans by the words of the document."""
    house, people, now, end = task
    places, arcs = nodes_of(task), arcs_of(task)
    number = dict((place, at) for at, place in enumerate(places))
    passages = [name for kind, name, beat, *_ in arcs if kind == "go" and beat == now]
    person_node = dict((person, len(places) + at) for at, person in enumerate(lot))
    passage_node = dict((name, len(places) + len(lot) + at) for at, name in enumerate(passages))
    first_end = len(places) + len(lot) + len(passages)
    found = [(tail, head, most, 0) for _, _, beat, tail, head, most in arcs if beat != now]
    for person in lot:
        room, beat, _ = people[person]
        if not steps_in(task, person):
            found.append((person_node[person], begins(task)[person], 1, 0))
            continue
        told = steps[person]
        if (room, now + 1) in number:
            found.append((person_node[person], number[room, now + 1], 1, int(told not in (None, "stand"))))
        for name in passages:
            if house[1][name][0] == room:
                found.append((person_node[person], passage_node[name], 1, int(told is not None and told != name)))
    for name in passages:
        found.append((passage_node[name], number[house[1][name][1], now + house[1][name][2]], house[1][name][3], 0))
    for at, doors in enumerate(goals(task)):
        found += [(door, first_end + at, None, 0) for door in doors]
    ends = tuple(range(first_end, first_end + end - now + 1))
    rises = tuple([numbers[0]] + [later - ahead for ahead, later in zip(numbers, numbers[1:])])
    return ends[-1] + 1, tuple(found), tuple(person_node.values()), ends, rises


def worth_by_hand(net, prices):
    _, arcs, persons, ends, rises = net
    worth = sum(rise * prices[node] for rise, node in zip(rises, ends)) - sum(prices[node] for node in persons)
    for tail, head, most, price in arcs:
        above = max(0, prices[head] - prices[tail] - price)
        if above and most is None:
            return None
        worth -= 0 if above == 0 else most * above
    return worth


def loads_of(net):
    """All loads by which one sets out from each person, and as many come to each beat as rises tell."""
    many, arcs, persons, ends, rises = net
    mosts = [len(persons) if most is None else min(most, len(persons)) for _, _, most, _ in arcs]
    size = 1
    for most in mosts:
        size *= most + 1
    if size > 20000:
        return None
    wanted = [0] * many
    for node in persons:
        wanted[node] = -1
    for node, rise in zip(ends, rises):
        wanted[node] = rise
    found = []
    for load in itertools.product(*[range(most + 1) for most in mosts]):
        more = [0] * many
        for (tail, head, _, _), one in zip(arcs, load):
            more[tail] -= one
            more[head] += one
        if more == wanted:
            found.append(load)
    return found


def load_of(task, lot, net, run):
    """The load of a best plan in which nobody else enters a passage."""
    flow = dict((arc[:3], many) for arc, many in zip(arcs_of(task), run_flow(task, run)))
    done = steps_done(task, run)
    load = [flow[arc[:3]] for arc in arcs_of(task) if arc[2] > task[2]]
    names = [arc[1] for arc in arcs_of(task) if arc[0] == "go" and arc[2] == task[2]]
    number = dict((place, at) for at, place in enumerate(nodes_of(task)))
    for person, node in zip(lot, net[2]):
        for tail, head, _, _ in net[1]:
            if tail == node:
                stood = number.get((task[1][person][0], task[2] + 1))
                leads = {"stand": stood, None: begins(task)[person]}.get(done[person])
                if leads is None:
                    leads = net[2][0] + len(lot) + names.index(done[person])
                load.append(int(head == leads))
    load += [flow[("go", name, task[2])] for name in names]
    outs_told = out_beats(task, run)
    for at, doors in enumerate(goals(task)):
        for door in doors:
            room = nodes_of(task)[door][0]
            load.append(len([1 for person in lot if outs_told[person] == task[2] + at and last_room(task, run, person) == room]))
    return tuple(load)


def last_room(task, run, person):
    return task[0][1][run[person][-1][0]][1] if run[person] else task[1][person][0]


class Net(Case):
    """[54]."""

    def test_small(self):
        # Nodes: (0, 0), (1, 0), (0, 1), (1, 1), (0, 2), (1, 2); three persons; two passages; three beats.
        arcs = ((2, 4, None, 0), (2, 5, 1, 0), (2, 5, 1, 0),
                (6, 2, 1, 0), (6, 9, 1, 1), (6, 10, 1, 1), (7, 2, 1, 1), (7, 9, 1, 1), (7, 10, 1, 0), (8, 2, 1, 1), (8, 9, 1, 1),
                (8, 10, 1, 0), (9, 3, 1, 0), (10, 3, 1, 0), (1, 11, None, 0), (3, 12, None, 0), (5, 13, None, 0))
        self.gives((14, arcs, (6, 7, 8), (11, 12, 13), (0, 2, 1)), turn_net, THREE, STEPS)
        self.gives((2, ((0, 1, None, 0),), (), (1,), (0,)), turn_net, (((1,), (), (None,)), (), 0, 0), ())
        self.gives((3, ((1, 0, 1, 0), (0, 2, None, 0)), (1,), (2,), (1,)), turn_net, (((1,), (), (None,)), ((0, 3, 0),), 3, 3), (None,))

    def test_drawn(self):
        draw = random.Random(166)
        for at in range(120):
            task, runs = small_task(draw, people=4) if at % 2 else busy_task(draw)
            lot, most, _ = best_plans(task, runs)
            steps = draw_told(draw, task)
            self.gives(net_by_hand(task, steps, lot, most), turn_net, task, steps)

    def test_all_loads(self):
        draw = random.Random(167)
        many = 0
        while many < 40:
            task, runs = small_task(draw, people=3, beats=4, rooms=3, passages=4)
            lot, _, best = best_plans(task, runs)
            steps = draw_told(draw, task)
            net = turn_net(task, steps)
            loads = loads_of(net)
            if loads is None or len(lot) < 2:
                continue
            many += 1
            plain = [run for run in best if not [row for person, row in enumerate(run) if row and person not in lot]]
            self.assertEqual(set([load_of(task, lot, net, run) for run in plain]), set(loads))
            prices = [sum(one * arc[3] for one, arc in zip(load, net[1])) for load in loads]
            self.assertEqual(min(prices), fewest_turned(task, steps)[0])


class Prices(Case):
    """[55]."""

    def test_small(self):
        zero = (0,) * 14
        self.gives(0, prices_worth, THREE, STEPS, zero)
        self.gives(True, prices_hold, THREE, STEPS, 0, zero)
        self.gives(False, prices_hold, THREE, STEPS, 1, zero)
        # An arc without a bound that leads up by more than its price.
        self.gives(None, prices_worth, THREE, STEPS, (0,) * 11 + (1, 0, 0))
        self.gives(None, prices_worth, THREE, STEPS, (0, 0, 0, 0, 1) + (0,) * 9)
        self.gives(False, prices_hold, THREE, STEPS, 0, (0,) * 11 + (1, 0, 0))
        self.gives(0, prices_worth, THREE, STEPS, (7,) * 14)
        self.gives(-1, prices_worth, THREE, STEPS, zero[:6] + (1,) + zero[7:])
        self.gives(0, prices_worth, THREE, STEPS, zero[:6] + (-1,) + zero[7:])
        self.gives(-2000, prices_worth, THREE, STEPS, (0,) * 12 + (-1000, 0))

    def test_all_runs(self):
        draw = random.Random(168)
        shown = 0
        for at in range(100):
            task, runs = small_task(draw, people=3) if at % 2 else busy_task(draw)
            lot, most, best = best_plans(task, runs)
            steps = draw_told(draw, task)
            net = net_by_hand(task, steps, lot, most)
            number = min(len(turned_in(task, steps, lot, run)) for run in best)
            right = fewest_turned(task, steps)[2]
            for _ in range(12):
                if draw.random() < 0.5:
                    prices = tuple([price + draw.choice((0, 0, 0, 0, 1, -1)) for price in right])
                else:
                    prices = tuple([draw.choice((0, 0, 1, -1, 5, -1000, 1000)) for _ in range(net[0])])
                worth = worth_by_hand(net, prices)
                self.assertEqual(prices_worth(task, steps, prices), worth)
                self.assertTrue(worth is None or worth <= number)
                shown += worth is not None
                for told in (number, number + 1):
                    self.assertIs(prices_hold(task, steps, told, prices), worth is not None and worth >= told)
            self.gives(worth, prices_worth, task, steps, prices)
            self.gives(worth is not None and worth >= number, prices_hold, task, steps, number, prices)
        self.assertGreater(shown, 300)


if __name__ == "__main__":
    unittest.main()
