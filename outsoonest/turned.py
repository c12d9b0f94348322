"""Turned: the steps of this beat, and a best plan by which as few as can be have another one than was told."""

from outsoonest.cheapest import Cheapest
from outsoonest.errors import Refused
from outsoonest.houses import is_place
from outsoonest.linking import first_of
from outsoonest.people import in_order
from outsoonest.runs import dealt, need_run, outs_of
from outsoonest.soonest import soonest_of
from outsoonest.unrolled import check_task, doors_of, places_of, starts_of, steps_of
from outsoonest.ways import is_plan
from outsoonest.words import is_integer, is_number, is_row_of, is_within


def has_step(task, person):
    """Whether one of the people of a checked task has a step of this beat."""
    house, people, now, end = task
    room, beat, _ = people[person]
    return now < end and beat == now and house[0][room] == 0 and is_place(house, room, now)


def is_told(task, person, value):
    """Whether any value can be told to a person: a step or None, None for whoever has none."""
    if value is None:
        return True
    if not has_step(task, person):
        return False
    return isinstance(value, str) and value == "stand" or is_within(value, 0, len(task[0][1]) - 1)


def need_told(task, value):
    """Any value that is told steps of a checked task, as a tuple; Refused for any other one."""
    if not is_row_of(value, len(task[1])):
        raise Refused(value)
    if not all([is_told(task, person, step) for person, step in enumerate(value)]):
        raise Refused(value)
    return tuple(value)


def check_told(task, value):
    """Any value that is told steps, as a tuple; Refused for any other one."""
    return need_told(check_task(task), value)


def step_by(task, person, row):
    """The step of this beat that a person has by their entries; None if they have none."""
    if not has_step(task, person):
        return None
    return row[0][0] if row and row[0][1] == task[2] else "stand"


def steps_by(task, run):
    """By person of a checked task the step that they have by a run that holds."""
    return tuple([step_by(task, person, row) for person, row in enumerate(run)])


def steps_of_run(task, run):
    """By person the passage that is entered now, or "stand"; None for whoever has no step."""
    task = check_task(task)
    return steps_by(task, need_run(task, run))


def turned_by_run(task, steps, run):
    """The ascending persons who are out by the end of the run and have another step than the told one."""
    task = check_task(task)
    steps = need_told(task, steps)
    run = need_run(task, run)
    since = outs_of(task, run)
    return tuple([person for person, (told, done) in enumerate(zip(steps, steps_by(task, run)))
                  if since[person] is not None and told is not None and told != done])


def is_best(task, value):
    """Whether any value is a best plan."""
    task = check_task(task)
    return is_plan(task, first_of(task), value)


def moves_of(task, lot):
    """(person, step, place) of all that those of the first lot can do in this beat.

    Of who has a step, to stand first; the place is where it leads. Of others None, and where they begin.
    """
    starts = starts_of(task)
    now = [arc for arc in steps_of(task) if arc[2] == task[2]]
    rows = []
    for person in lot:
        if has_step(task, person):
            rows.extend([(person, "stand" if kind == "stand" else name, head)
                         for kind, name, _, tail, head, _ in now if tail == starts[person]])
        else:
            rows.append((person, None, starts[person]))
    return rows


class Turning:
    """The net of best plans of a checked task ([54]), and what its arcs are.

    `later` are the arcs of later beats, `moves` what the arcs of persons do,
    `node` has by person of the first lot the node.
    """

    def __init__(self, task, steps):
        lot = first_of(task)
        arcs = steps_of(task)
        entered = [arc for arc in arcs if arc[0] == "go" and arc[2] == task[2]]
        first = len(places_of(task))
        self.persons = tuple(range(first, first + len(lot)))
        first += len(lot)
        passages = {arc[1]: first + at for at, arc in enumerate(entered)}
        first += len(entered)
        self.ends = tuple(range(first, first + task[3] - task[2] + 1))
        self.many = first + len(self.ends)
        self.later = [arc for arc in arcs if arc[2] > task[2]]
        self.moves = moves_of(task, lot)
        self.arcs = [(tail, head, most, 0) for _, _, _, tail, head, most in self.later]
        self.node = {person: node for person, node in zip(lot, self.persons)}
        for person, step, place in self.moves:
            price = 0 if steps[person] is None or steps[person] == step else 1
            self.arcs.append((self.node[person], passages.get(step, place), 1, price))
        self.arcs.extend([(passages[name], head, most, 0) for _, name, _, _, head, most in entered])
        for node, doors in zip(self.ends, doors_of(task)):
            self.arcs.extend([(door, node, None, 0) for door in doors])
        numbers = soonest_of(task)
        self.rises = tuple([many - ahead for many, ahead in zip(numbers, (0,) + numbers)])

    def cheapest(self, task):
        """The net led on from each person to the ends as their rises tell."""
        last = self.many
        arcs = self.arcs + [(node, last, rise, 0) for node, rise in zip(self.ends, self.rises)]
        led = Cheapest(last + 1, arcs, len(self.persons))
        # By the order, so that of those who cannot all do what they were told the more urgent rather do.
        for person in in_order(task[1]):
            if person in self.node:
                led.go_cheapest(self.node[person], last)
        return led

    def run_by(self, task, load):
        """The run of the task by a load of the net."""
        rows = [[] for _ in task[1]]
        waiting = [[] for _ in places_of(task)]
        for (person, step, place), many in zip(self.moves, load[len(self.later):]):
            if many == 1:
                waiting[place].append(person)
                if is_number(step):
                    rows[person].append((step, task[2]))
        return dealt(self.later, load, waiting, rows)


def turn_net(task, steps):
    """How many nodes, the arcs, the nodes by person, those by beat, and how many more are out by each beat."""
    task = check_task(task)
    net = Turning(task, need_told(task, steps))
    return net.many, tuple(net.arcs), net.persons, net.ends, net.rises


def turning_fewest(task, steps):
    """What fewest_turned tells of a checked task and told steps of it."""
    net = Turning(task, steps)
    led = net.cheapest(task)
    load = led.load()
    number = sum([many * arc[3] for many, arc in zip(load, net.arcs)])
    return number, net.run_by(task, load), tuple(led.height[:net.many])


def fewest_turned(task, steps):
    """How many are turned at least by a best plan, some best plan that turns so many, and prices that show it."""
    task = check_task(task)
    return turning_fewest(task, need_told(task, steps))


def is_prices(net, value):
    """Whether any value is a sequence of an integer by node of a net of best plans."""
    return is_row_of(value, net.many) and all([is_integer(price) for price in value])


def worth_of(net, prices):
    """What prices are worth for a net of best plans; None if an arc without a bound leads up too far."""
    worth = sum([rise * prices[node] for rise, node in zip(net.rises, net.ends)])
    worth -= sum([prices[node] for node in net.persons])
    for tail, head, most, price in net.arcs:
        above = prices[head] - prices[tail] - price
        if above > 0:
            if most is None:
                return None
            worth -= most * above
    return worth


def prices_worth(task, steps, prices):
    """What prices are worth: so many at least are turned by each best plan; None if that tells nothing."""
    task = check_task(task)
    net = Turning(task, need_told(task, steps))
    if not is_prices(net, prices):
        raise Refused(prices)
    return worth_of(net, prices)


def prices_hold(task, steps, number, value):
    """Whether any values are a number and prices that are worth so much or more."""
    task = check_task(task)
    net = Turning(task, need_told(task, steps))
    if not is_number(number) or not is_prices(net, value):
        return False
    worth = worth_of(net, value)
    return worth is not None and worth >= number
