"""Houses, tasks and nets that are drawn, and counts of them that are not the program's own."""

import itertools
import random


def draw_house(draw, rooms=4, passages=5, beats=6, length=3, width=2):
    """A small house: way out or inside by room, any passages, smoke and shut beats early enough to matter."""
    many = draw.randint(1, rooms)
    kinds = tuple([draw.choice((0, 0, 1)) for _ in range(many)])
    inside = [room for room in range(many) if kinds[room] == 0]
    rows = []
    for _ in range(draw.randint(0, passages)):
        if inside and many > 1:
            tail = draw.choice(inside)
            head = draw.choice([room for room in range(many) if room != tail])
            shut = tuple([beat for beat in range(beats) if draw.random() < 0.15])
            rows.append((tail, head, draw.choice((1, 1, 1, 2, length)), draw.choice((0, 1, 1, 1, width)), shut))
    smoke = tuple([None if kind or draw.random() < 0.6 else draw.randrange(beats) for kind in kinds])
    return kinds, tuple(rows), smoke


def draw_task(draw, people=3, beats=5, **more):
    """A small task."""
    house = draw_house(draw, beats=beats + 1, **more)
    now = draw.choice((0, 0, 0, 1, 2))
    end = now + draw.randint(0, beats - 1)
    who = [(draw.randrange(len(house[0])), now + draw.choice((0, 0, 0, 0, 1, 2, 6)), draw.randrange(4))
           for _ in range(draw.randint(0, people))]
    return house, tuple(who), now, end


def smoky(house, room, beat):
    return house[2][room] is not None and house[2][room] <= beat


def all_rows(task, person):
    """All sequences of entries of a person that can be, told by the words of the document."""
    house, people, now, end = task

    def go(room, beat):
        yield ()
        for when in range(beat, end + 1):
            for passage, (tail, head, length, _, shut) in enumerate(house[1]):
                if tail == room and when not in shut and not smoky(house, room, when):
                    for rest in go(head, when + length):
                        yield ((passage, when),) + rest

    return list(go(people[person][0], people[person][1]))


def all_runs(task, most=20000):
    """All runs that hold; None if there are too many rows of entries."""
    rows = [all_rows(task, person) for person in range(len(task[1]))]
    many = 1
    for told in rows:
        many *= len(told)
        if many > most:
            return None
    return [run for run in itertools.product(*rows) if widths_hold(task[0], run)]


def widths_hold(house, run):
    entered = [entry for row in run for entry in row]
    return all(entered.count(entry) <= house[1][entry[0]][3] for entry in entered)


def followed(task, row, person):
    """By beat from 0 to 75 where a person is: beat by beat, by the words of the document."""
    house, people, _, _ = task
    room, begins, _ = people[person]
    told, coming, lost = [], begins, None
    within = None
    entries = dict((beat, passage) for passage, beat in row)
    for beat in range(76):
        if beat == coming:
            within = None
        if beat < begins:
            told.append(("within", None, begins))
            continue
        if within is None and house[0][room] == 1:
            told.append(("out", room))
            continue
        if within is not None:
            told.append(("within", within, coming))
            continue
        if smoky(house, room, beat):
            lost = beat if lost is None else lost
            told.append(("lost", lost))
            continue
        told.append(("room", room))
        if beat in entries:
            within = entries[beat]
            room, coming = house[1][within][1], beat + house[1][within][2]
    return told


def out_numbers(task, run):
    """By beat how many are out by a run."""
    rows = [followed(task, run[person], person) for person in range(len(run))]
    return tuple([len([row for row in rows if row[beat][0] == "out"]) for beat in range(task[2], task[3] + 1)])


def draw_net(draw, nodes=5, arcs=7, most=3, bare=0.1):
    """A small net, some arcs without a bound, some from a node to itself."""
    many = draw.randint(2, nodes)
    return many, tuple([(draw.randrange(many), draw.randrange(many),
                         None if draw.random() < bare else draw.choice((0, 1, 1, 2, most)))
                        for _ in range(draw.randint(0, arcs))])


def all_lots(nodes):
    """All lots of some nodes, ascending each."""
    return [lot for many in range(len(nodes) + 1) for lot in itertools.combinations(nodes, many)]


def bears(net, lot):
    """What a lot is worth, None for no bound."""
    mosts = [most for tail, head, most in net[1] if tail in lot and head not in lot]
    return None if None in mosts else sum(mosts)


def balance(net, load):
    """By node what comes in less what goes out."""
    return [sum(many for arc, many in zip(net[1], load) if arc[1] == node)
            - sum(many for arc, many in zip(net[1], load) if arc[0] == node) for node in range(net[0])]


def draw_load(draw, net, most=4):
    return tuple([draw.randint(0, most if arc[2] is None else min(most, arc[2])) for arc in net[1]])


def all_loads(net, most=2):
    """All loads, arcs without a bound bearing a little."""
    return itertools.product(*[range((most if arc[2] is None else arc[2]) + 1) for arc in net[1]])


def small_task(draw, most=3000, **more):
    """A small task, and all its runs."""
    while True:
        task = draw_task(draw, **more)
        runs = all_runs(task, most)
        if runs is not None:
            return task, runs


def busy_task(draw, most=1500, **more):
    """A small task and all its runs, where by some beat somebody can be out, and not all can be who could be alone."""
    while True:
        task, runs = small_task(draw, most, **more)
        outs = set([out_beats(task, run) for run in runs])
        for beat in range(task[2] + 1, task[3] + 1):
            lots = lots_out(outs, len(task[1]), beat)
            if max([len(lot) for lot in lots]) < len([lot for lot in lots if len(lot) == 1]):
                return task, runs


def out_beats(task, run):
    """By person the beat from which they are out by a run, None if not by the end."""
    rows = [followed(task, row, person) for person, row in enumerate(run)]
    return tuple([next((beat for beat in range(task[2], task[3] + 1) if row[beat][0] == "out"), None) for row in rows])


def lots_out(outs, people, beat):
    """All lots that can be out by a beat, by who is out when by all runs."""
    found = set()
    for told in set(outs):
        out = [person for person in range(people) if told[person] is not None and told[person] <= beat]
        found.update(all_lots(out))
    return found


def most_by_beat(task, outs):
    """By beat the most who are out by it, by who is out when by all runs."""
    return tuple([max([len([when for when in told if when is not None and when <= beat]) for told in outs])
                  for beat in range(task[2], task[3] + 1)])


def order_of(people):
    """The numbers of people, the more urgent first, of those alike the lesser number."""
    return sorted(range(len(people)), key=lambda person: (people[person][2], person))


def first_of_all(task, lots):
    """The first of some lots, counted by who of the order is in them."""
    order = order_of(task[1])
    return min(lots, key=lambda lot: [person not in lot for person in order])


def all_cuts(task, beat):
    """All cuts of a small task, but such as hold alike what is from now to the beat."""
    return list(itertools.product(*[(None,) if kind else (None,) + tuple(range(task[2], beat + 1)) for kind in task[0][0]]))


def holding(cut, room, beat):
    return cut[room] is not None and beat >= cut[room]


def held_places(task, beat, cut):
    """The (room, beat) without smoke, from now to the beat, that a cut holds."""
    return set([(room, when) for room in range(len(cut)) for when in range(task[2], beat + 1)
                if holding(cut, room, when) and not smoky(task[0], room, when)])


def lets_out(task, beat, cut, people=None):
    """How many a cut lets out by a beat, of all people or of some, by the words of the document."""
    house, told, now, end = task
    many = 0
    for person in (range(len(told)) if people is None else people):
        room, when, _ = told[person]
        if when <= beat and not smoky(house, room, when) and not holding(cut, room, when):
            many += 1
    return many + sum([width for _, _, width in passed_rows(task, beat, cut)])


def passed_rows(task, beat, cut):
    """(passage, entered, width) of the entries from a place that is held to one that is not, up to a beat."""
    house, _, now, _ = task
    found = []
    for when in range(now, beat + 1):
        for passage, (tail, head, length, width, shut) in enumerate(house[1]):
            comes = when + length
            if width and when not in shut and comes <= beat and not smoky(house, tail, when) and not smoky(house, head, comes):
                if holding(cut, tail, when) and not holding(cut, head, comes):
                    found.append((passage, when, width))
    return found


def great_task(seed, people=60, end=59, crowded=False):
    """A task as great as may be; in a crowded one no more than two rooms lead out, and not at all beats."""
    draw = random.Random(seed)
    if crowded:
        rows = [draw.sample(range(18), 2) + [1, 1, ()] for _ in range(58)]
        rows += [(0, 18, 1, 1, tuple(range(0, 60, 2))), (5, 19, 2, 1, tuple(range(1, 60, 2)))]
        smoke = (None,) * 20
    else:
        rows = [(at // 3, min(19, at // 3 + draw.randint(1, 3)), draw.randint(1, 3), draw.randint(1, 3),
                 tuple(sorted(draw.sample(range(60), 9)))) for at in range(54)] + [(17, 18, 1, 1, ())] * 6
        smoke = tuple(range(41, 59)) + (None, None)
    house = (0,) * 18 + (1, 1), tuple([tuple(row) for row in rows]), smoke
    return house, tuple([(draw.randrange(18), draw.choice((0, 0, 3, 8)), draw.randrange(10)) for _ in range(people)]), 0, end
