"""Flows to rows of ends, the most to all beginnings at once, and a task's net by which all are out soonest."""

from outsoonest.errors import Refused
from outsoonest.nets import coming, is_load, need_ends, need_net, need_node
from outsoonest.residue import Residue, unbounded
from outsoonest.runs import run_of
from outsoonest.unrolled import check_task, doors_of, ending, places_of, starts_of, steps_of


def need_row(net, start, ends):
    """The net and the ends, as tuples, where the start is a node of it."""
    net = need_net(net)
    need_node(net, start)
    return net, need_ends(net, start, ends)


def is_to_ends(net, start, ends, value):
    """Whether any value is a flow from the start to the ends."""
    if not is_load(net, value):
        return False
    is_end = [False] * net[0]
    for node in ends:
        is_end[node] = True
    return all([more == 0 or node == start or more > 0 and is_end[node]
                for node, more in enumerate(coming(net, value))])


def ends_fit(net, start, ends, value):
    """Whether any value is a sequence that is a flow from the start to the ends."""
    net, ends = need_row(net, start, ends)
    return is_to_ends(net, start, ends, value)


def brought(net, start, ends, flow):
    """By end how much more comes in by a flow to the ends than goes out."""
    net, ends = need_row(net, start, ends)
    if not is_to_ends(net, start, ends, flow):
        raise Refused(flow)
    more = coming(net, flow)
    return tuple([more[node] for node in ends])


def led_to(net, start, ends):
    """By end, in their order, the most that is brought up to it, and the least lot that shows it.

    Both are None where any number can be brought. Also what the flow leaves by which it is so.
    Walks to a later end never take back what an earlier one has: no walk
    leads to that one any more, so none passes it.
    """
    bare = unbounded(net, start)
    residue = Residue(net, [0] * len(net[1]))
    rows = []
    for at, goal in enumerate(ends):
        if bare[goal]:
            rows.extend([(None, None)] * (len(ends) - at))
            break
        residue.go_all(start, goal)
        more = coming(net, residue.load())
        rows.append((sum([more[node] for node in ends[:at + 1]]), residue.reached(start)))
    return rows, residue


def most_to(net, start, ends):
    """By end how much any flow brings, at most, to it and all ahead of it; None if any number."""
    net, ends = need_row(net, start, ends)
    rows, _ = led_to(net, start, ends)
    return tuple([most for most, _ in rows])


def soonest_to(net, start, ends):
    """Some flow that brings the most to each end and all ahead of it; None if any number to one."""
    net, ends = need_row(net, start, ends)
    rows, residue = led_to(net, start, ends)
    return None if (None, None) in rows else residue.load()


def walls(net, start, ends):
    """By end the least lot that is worth the most that can be brought so far; None if any number."""
    net, ends = need_row(net, start, ends)
    rows, _ = led_to(net, start, ends)
    return tuple([lot for _, lot in rows])


def net_of(task):
    """What goal_net tells of a checked task."""
    places = places_of(task)
    people = len(task[1])
    start = len(places) + people
    last = start + 1 + task[3] - task[2] + 1
    persons = tuple(range(len(places), start))
    ends = tuple(range(start + 1, last))
    arcs = [arc[3:] for arc in steps_of(task)]
    arcs.extend([(start, person, 1) for person in persons])
    for person, place in zip(persons, starts_of(task)):
        arcs.append((person, person, 0) if place is None else (person, place, 1))
    for beat, doors in zip(ends, doors_of(task)):
        arcs.extend([(door, beat, None) for door in doors])
    arcs.extend([(beat, last, None) for beat in ends])
    return (last + 1, tuple(arcs)), start, persons, ends, last


def goal_net(task):
    """The task's net, its start, the nodes by person, those by beat, and the last one."""
    return net_of(check_task(task))


def led_out(task):
    """By beat the most who can be out and the least lot that shows it, and what the flow leaves."""
    net, start, _, ends, _ = net_of(task)
    return led_to(net, start, ends)


def soonest_of(task):
    """By beat how many of a checked task are out by it in any run that holds, at most."""
    rows, _ = led_out(task)
    return tuple([most for most, _ in rows])


def soonest(task):
    """By beat, from now to the end, how many are out by it in any run that holds, at most."""
    return soonest_of(check_task(task))


def led_till(task, beat):
    """What a greatest flow leaves of the net of a checked task that ends at a beat; its start; its last node."""
    net, start, _, _, last = net_of(ending(task, beat))
    residue = Residue(net, [0] * len(net[1]))
    residue.go_all(start, last)
    return residue, start, last


def most_till(task, beat):
    """How many of a checked task can be out by a beat at most."""
    residue, start, _ = led_till(task, beat)
    return residue.gone_from(start)


def best_flow(task):
    """Some flow of a checked task by which as many are out at every beat as can be."""
    _, residue = led_out(task)
    return residue.load()[:len(steps_of(task))]


def soonest_flow(task):
    """Some flow of the task by which at every beat as many are out as under any run."""
    return best_flow(check_task(task))


def soonest_run(task):
    """Some run that holds by which at every beat as many are out as under any run."""
    task = check_task(task)
    return run_of(task, best_flow(task))


def walls_of(task):
    """By beat the least lot of the house's places that shows that no more can be out by it."""
    task = check_task(task)
    rows, _ = led_out(task)
    many = len(places_of(task))
    return tuple([tuple([node for node in lot if node < many]) for _, lot in rows])
