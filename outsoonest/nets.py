"""What the functions of nets ask of their arguments: Refused of any value that is none."""

from outsoonest.errors import Refused
from outsoonest.words import is_ascending, is_integer, is_number, is_row_of, is_sequence, is_within

MOST_NODES = 2000


def is_arc(many, value):
    """Whether any value is an arc between so many nodes."""
    if not is_row_of(value, 3):
        return False
    tail, head, most = value
    return is_within(tail, 0, many - 1) and is_within(head, 0, many - 1) and (most is None or is_number(most))


def need_net(value):
    """Any value that is a net, as tuples."""
    if not is_row_of(value, 2):
        raise Refused(value)
    many, arcs = value
    if not is_within(many, 1, MOST_NODES) or not is_sequence(arcs):
        raise Refused(value)
    if not all([is_arc(many, arc) for arc in arcs]):
        raise Refused(value)
    return many, tuple([tuple(arc) for arc in arcs])


def need_node(net, value):
    """Any value that is a node."""
    if not is_within(value, 0, net[0] - 1):
        raise Refused(value)


def need_goal(net, start, value):
    """Any value that is a node unlike the start."""
    need_node(net, value)
    if value == start:
        raise Refused(value)


def need_ends(net, start, value):
    """Any value that is a sequence of unlike nodes, none of them the start, as a tuple."""
    if not is_sequence(value):
        raise Refused(value)
    met = [False] * net[0]
    met[start] = True
    for node in value:
        if not is_within(node, 0, net[0] - 1) or met[node]:
            raise Refused(value)
        met[node] = True
    return tuple(value)


def need_lot(net, value):
    """Any value that is ascending nodes, as a tuple."""
    if not is_ascending(value, net[0]):
        raise Refused(value)
    return tuple(value)


def is_load(net, value):
    """Whether any value tells by arc a number, not greater than its most."""
    arcs = net[1]
    if not is_row_of(value, len(arcs)):
        return False
    return all([is_number(many) and (arc[2] is None or many <= arc[2]) for arc, many in zip(arcs, value)])


def need_load(net, value):
    """Any value that is a load, as a tuple."""
    if not is_load(net, value):
        raise Refused(value)
    return tuple(value)


def coming(net, load):
    """By node how much more comes in than goes out by a load."""
    more = [0] * net[0]
    for (tail, head, _), many in zip(net[1], load):
        more[tail] -= many
        more[head] += many
    return more


def is_flow(net, start, goal, value):
    """Whether any value is a flow from the start to the goal."""
    if not is_load(net, value):
        return False
    return all([more == 0 or node in (start, goal) for node, more in enumerate(coming(net, value))])


def need_flow(net, start, goal, value):
    """Any value that is a flow from the start to the goal, as a tuple."""
    if not is_flow(net, start, goal, value):
        raise Refused(value)
    return tuple(value)


def is_step(net, value):
    """Whether any value is a step: an arc, and 1 for forth or -1 for back."""
    if not is_row_of(value, 2) or not is_within(value[0], 0, len(net[1]) - 1):
        return False
    return is_integer(value[1]) and value[1] in (1, -1)


def step_ends(net, step):
    """Where a step begins and where it ends."""
    tail, head, _ = net[1][step[0]]
    return (tail, head) if step[1] == 1 else (head, tail)


def is_linked(net, value):
    """Whether any value is a sequence of steps, each beginning where the one ahead ends."""
    if not is_sequence(value) or not all([is_step(net, step) for step in value]):
        return False
    ends = [step_ends(net, step) for step in value]
    return all([ends[at][0] == ends[at - 1][1] for at in range(1, len(ends))])


def need_steps(net, value):
    """Any value that is linked steps by unlike arcs, as tuples."""
    if not is_linked(net, value) or len({step[0]: True for step in value}) < len(value):
        raise Refused(value)
    return tuple([tuple(step) for step in value])


def step_left(net, load, step):
    """How often a step can be gone under a load; None for any number."""
    arc, way = step
    if way == -1:
        return load[arc]
    most = net[1][arc][2]
    return None if most is None else most - load[arc]


def most_left(net, load, steps):
    """How often steps by unlike arcs can be gone, all as often; None for any number."""
    told = [step_left(net, load, step) for step in steps]
    return min([left for left in told if left is not None], default=None)


def stepped(load, steps, many):
    """The load behind steps that were gone so often."""
    more = list(load)
    for arc, way in steps:
        more[arc] += way * many
    return tuple(more)
