"""Houses, tasks and nets that are drawn, and counts of them that are not the program's own."""

import itertools


def draw_house(draw, rooms=4, passages=5, beats=6, length=3, width=2):
    """A small house: way out or inside by room, any passages, smoke and shut beats early enough to matter."""
    many = draw.randint(1, rooms)
    kinds = tuple([draw.choice((0, 0, 1)) for _ in range(many)])
    inside = [room for room in range(many) if kinds[room] == 0]
    rows = []
    for _ in range(draw.randint(0, passages)):
        if inside and many > 1:
            tail = draw.choice(inside)
            head = draw.choice([room for room in range(many) if room != tail])
            shut = tuple([beat for beat in range(beats) if draw.random() < 0.15])
            rows.append((tail, head, draw.choice((1, 1, 1, 2, length)), draw.choice((0, 1, 1, 1, width)), shut))
    smoke = tuple([None if kind or draw.random() < 0.6 else draw.randrange(beats) for kind in kinds])
    return kinds, tuple(rows), smoke


def draw_task(draw, people=3, beats=5, **more):
    """A small task."""
    house = draw_house(draw, beats=beats + 1, **more)
    now = draw.choice((0, 0, 0, 1, 2))
    end = now + draw.randint(0, beats - 1)
    who = [(draw.randrange(len(house[0])), now + draw.choice((0, 0, 0, 0, 1, 2, 6)), draw.randrange(4))
           for _ in range(draw.randint(0, people))]
    return house, tuple(who), now, end


def smoky(house, room, beat):
    return house[2][room] is not None and house[2][room] <= beat


def all_rows(task, person):
    """All sequences of entries of a person that can be, told by the words of the document."""
    house, people, now, end = task

    def go(room, beat):
        yield ()
        for when in range(beat, end + 1):
            for passage, (tail, head, length, _, shut) in enumerate(house[1]):
                if tail == room and when not in shut and not smoky(house, room, when):
                    for rest in go(head, when + length):
                        yield ((passage, when),) + rest

    return list(go(people[person][0], people[person][1]))


def all_runs(task, most=20000):
    """All runs that hold; None if there are too many rows of entries."""
    rows = [all_rows(task, person) for person in range(len(task[1]))]
    many = 1
    for told in rows:
        many *= len(told)
        if many > most:
            return None
    return [run for run in itertools.product(*rows) if widths_hold(task[0], run)]


def widths_hold(house, run):
    entered = [entry for row in run for entry in row]
    return all(entered.count(entry) <= house[1][entry[0]][3] for entry in entered)


def followed(task, row, person):
    """By beat from 0 to 75 where a person is: beat by beat, by the words of the document."""
    house, people, _, _ = task
    room, begins, _ = people[person]
    told, coming, lost = [], begins, None
    within = None
    entries = dict((beat, passage) for passage, beat in row)
    for beat in range(76):
        if beat == coming:
            within = None
        if beat < begins:
            told.append(("within", None, begins))
            continue
        if within is None and house[0][room] == 1:
            told.append(("out", room))
            continue
        if within is not None:
            told.append(("within", within, coming))
            continue
        if smoky(house, room, beat):
            lost = beat if lost is None else lost
            told.append(("lost", lost))
            continue
        told.append(("room", room))
        if beat in entries:
            within = entries[beat]
            room, coming = house[1][within][1], beat + house[1][within][2]
    return told


def out_numbers(task, run):
    """By beat how many are out by a run."""
    rows = [followed(task, run[person], person) for person in range(len(run))]
    return tuple([len([row for row in rows if row[beat][0] == "out"]) for beat in range(task[2], task[3] + 1)])


def draw_net(draw, nodes=5, arcs=7, most=3, bare=0.1):
    """A small net, some arcs without a bound, some from a node to itself."""
    many = draw.randint(2, nodes)
    return many, tuple([(draw.randrange(many), draw.randrange(many),
                         None if draw.random() < bare else draw.choice((0, 1, 1, 2, most)))
                        for _ in range(draw.randint(0, arcs))])


def all_lots(nodes):
    """All lots of some nodes, ascending each."""
    return [lot for many in range(len(nodes) + 1) for lot in itertools.combinations(nodes, many)]


def bears(net, lot):
    """What a lot is worth, None for no bound."""
    mosts = [most for tail, head, most in net[1] if tail in lot and head not in lot]
    return None if None in mosts else sum(mosts)


def balance(net, load):
    """By node what comes in less what goes out."""
    return [sum(many for arc, many in zip(net[1], load) if arc[1] == node)
            - sum(many for arc, many in zip(net[1], load) if arc[0] == node) for node in range(net[0])]


def draw_load(draw, net, most=4):
    return tuple([draw.randint(0, most if arc[2] is None else min(most, arc[2])) for arc in net[1]])


def all_loads(net, most=2):
    """All loads, arcs without a bound bearing a little."""
    return itertools.product(*[range((most if arc[2] is None else arc[2]) + 1) for arc in net[1]])
