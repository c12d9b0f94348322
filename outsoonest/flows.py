"""Nets and their flows: cuts, walks, greatest flows, and by what two flows are unlike."""

from outsoonest.change import Change
from outsoonest.errors import Refused
from outsoonest.nets import (coming, is_flow, is_linked, most_left, need_ends, need_flow, need_goal, need_load,
                             need_lot, need_net, need_node, need_steps, step_ends, step_left, stepped)
from outsoonest.residue import Residue, unbounded
from outsoonest.words import is_number


def check_net(value):
    """Any value that is a net, as tuples; Refused for any other one."""
    return need_net(value)


def no_flow(net):
    """The load of 0 on all arcs."""
    return tuple([0] * len(need_net(net)[1]))


def need_pair(net, start, goal):
    """The net, as tuples, where the others are a start and a goal of it."""
    net = need_net(net)
    need_node(net, start)
    need_goal(net, start, goal)
    return net


def flow_fits(net, start, goal, value):
    """Whether any value is a sequence that is a flow from the start to the goal."""
    return is_flow(need_pair(net, start, goal), start, goal, value)


def worth(net, start, goal, flow):
    """What comes to the goal by a flow less what goes out of it."""
    net = need_pair(net, start, goal)
    return coming(net, need_flow(net, start, goal, flow))[goal]


def cut_worth(net, lot):
    """What the arcs from within a lot to outside bear at most; None if one has no bound."""
    net = need_net(net)
    within = [False] * net[0]
    for node in need_lot(net, lot):
        within[node] = True
    mosts = [most for tail, head, most in net[1] if within[tail] and not within[head]]
    return None if None in mosts else sum(mosts)


def halves_to_steps(halves):
    """Halves of a residue as steps."""
    return tuple([(half >> 1, -1 if half & 1 else 1) for half in halves])


def walk(net, flow, start, ends):
    """Some walk to the first of the ends to which one leads; None if none does."""
    net = need_net(net)
    flow = need_load(net, flow)
    need_node(net, start)
    ends = need_ends(net, start, ends)
    residue = Residue(net, flow)
    met = residue.met_from(start)
    for goal in ends:
        if met[goal]:
            return halves_to_steps(residue.walk(start, goal))
    return None


def walk_holds(net, flow, start, goal, value):
    """Whether any value is a walk from the start to the goal."""
    net = need_net(net)
    flow = need_load(net, flow)
    need_node(net, start)
    need_goal(net, start, goal)
    if not is_linked(net, value) or not value:
        return False
    if 0 in [step_left(net, flow, step) for step in value]:
        return False
    nodes = [step_ends(net, value[0])[0]] + [step_ends(net, step)[1] for step in value]
    met = {node: True for node in nodes}
    return nodes[0] == start and nodes[-1] == goal and len(met) == len(nodes)


def reached(net, flow, start):
    """Ascending nodes to which a walk leads, and the start."""
    net = need_net(net)
    flow = need_load(net, flow)
    need_node(net, start)
    return Residue(net, flow).reached(start)


def reaching(net, flow, goal):
    """Ascending nodes from which a walk leads to the goal, and the goal."""
    net = need_net(net)
    flow = need_load(net, flow)
    need_node(net, goal)
    return Residue(net, flow).reaching(goal)


def spare(net, flow, steps):
    """How often steps can be gone, all as often; None for any number."""
    net = need_net(net)
    flow = need_load(net, flow)
    return most_left(net, flow, need_steps(net, steps))


def turned_by(net, flow, steps, many):
    """The load behind steps that were gone so often."""
    net = need_net(net)
    flow = need_load(net, flow)
    steps = need_steps(net, steps)
    most = most_left(net, flow, steps)
    if not is_number(many) or most is not None and many > most:
        raise Refused(many)
    return stepped(flow, steps, many)


def residue_led_on(net, start, goal, flow):
    """What a greatest flow leaves that is led on from a flow; None if any number can be had."""
    if unbounded(net, start)[goal]:
        return None
    residue = Residue(net, flow)
    residue.go_all(start, goal)
    return residue


def greatest(net, start, goal):
    """Some flow that is worth the most of all; None if any number can be had."""
    net = need_pair(net, start, goal)
    residue = residue_led_on(net, start, goal, no_flow(net))
    return None if residue is None else residue.load()


def led_on(net, start, goal, flow):
    """Such a flow that has no less on any arc from the start or to the goal; None likewise."""
    net = need_pair(net, start, goal)
    flow = need_flow(net, start, goal, flow)
    # Walks come to the start and to the goal at their ends alone, so none goes such an arc back.
    residue = residue_led_on(net, start, goal, flow)
    return None if residue is None else residue.load()


def cuts(net, start, goal):
    """Of the lots worth just what a greatest flow is, the least and the widest; None likewise."""
    net = need_pair(net, start, goal)
    residue = residue_led_on(net, start, goal, no_flow(net))
    if residue is None:
        return None
    beyond = {node: True for node in residue.reaching(goal)}
    return residue.reached(start), tuple([node for node in range(net[0]) if node not in beyond])


def unlike(net, start, goal, flow, other):
    """Some rings and ways, and how often each, by which the other flow is unlike the first."""
    net = need_pair(net, start, goal)
    flow = need_flow(net, start, goal, flow)
    other = need_flow(net, start, goal, other)
    change = Change(net, [told - had for told, had in zip(other, flow)])
    more = coming(net, other)[goal] - coming(net, flow)[goal]
    found = change.ways(start, goal, more) if more >= 0 else change.ways(goal, start, -more)
    for node in range(net[0]):
        found.extend(change.rings(node))
    return tuple(found)
