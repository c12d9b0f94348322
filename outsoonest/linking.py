"""A task's net under a flow of it, led on from people and from slots."""

from outsoonest.people import in_order
from outsoonest.residue import Residue
from outsoonest.soonest import net_of
from outsoonest.unrolled import doors_of, going_on, places_of, starts_of, steps_of


def led_people(task, flow):
    """Ascending, whom a flow of a checked task leads out, with those who begin in ways out.

    Of those who begin at one place the first by the order.
    """
    rooms = task[0][0]
    places = places_of(task)
    starts = starts_of(task)
    more = going_on(task, flow)
    led = []
    for person in in_order(task[1]):
        start = starts[person]
        if start is not None and (rooms[places[start][0]] == 1 or more[start] > 0):
            more[start] -= 1
            led.append(person)
    return tuple(sorted(led))


def link_load(task, flow, people):
    """The load of a checked task's net by a flow that leads these people out, but of its start and its last node.

    Those who begin in ways out do not come to slots by it: no walk would lead them on.
    """
    more = going_on(task, flow)
    led = [0] * len(task[1])
    for person in people:
        led[person] = 1
    load = list(flow) + [0] * len(led) + led
    for doors in doors_of(task):
        load.extend([-more[door] for door in doors])
    return load + [0] * (task[3] - task[2] + 1)


class Linking(Residue):
    """The net of a checked task ([27]) under a flow, whose ends are people and slots.

    `persons` and `slots` are the nodes by person and by beat, `last` is the
    node to which those slots lead that were let, none at first. No walk comes
    to the net's start, so whoever is led out is so for good, but for swaps.
    """

    def __init__(self, task, flow, people):
        net, _, persons, slots, last = net_of(task)
        Residue.__init__(self, net, link_load(task, flow, people))
        self.persons = persons
        self.slots = slots
        self.last = last
        self.many_arcs = len(flow)
        # By person and by beat the halves that lead from their nodes.
        self.links = [2 * (self.many_arcs + len(persons) + at) for at in range(len(persons))]
        self.exits = [2 * (len(net[1]) - len(slots) + at) for at in range(len(slots))]
        for half in self.exits:
            self.left[half] = 0

    def let(self, at):
        """Lets those who come to a slot go on to the last node."""
        self.left[self.exits[at]] = len(self.persons)

    def is_led(self, person):
        """Whether a person is led out."""
        return self.left[self.links[person] ^ 1] == 1

    def lead(self, person):
        """Leads a person out, if that can be beside those who are; whether they are then."""
        self.go_all(self.persons[person], self.last)
        return self.is_led(person)

    def swap(self, person, others):
        """Leads a person out in the place of the first of others in whose place it can be; None if in none."""
        met = self.met_from(self.persons[person])
        for other in others:
            if met[self.persons[other]]:
                self.go_row(self.walk(self.persons[person], self.persons[other]))
                return other
        return None

    def flow(self):
        """The flow as it is now: the load of the arcs of the house."""
        return self.load()[:self.many_arcs]


def led_none(task):
    """A checked task's net, all slots let, with nobody led out."""
    linking = Linking(task, [0] * len(steps_of(task)), ())
    for at in range(len(linking.slots)):
        linking.let(at)
    return linking


def led_first(task):
    """A checked task's net by which the first lot is led out by the end."""
    linking = led_none(task)
    for person in in_order(task[1]):
        linking.lead(person)
    return linking


def first_of(task):
    """The first lot of a checked task that can be out by the end."""
    linking = led_first(task)
    return tuple([person for person in range(len(task[1])) if linking.is_led(person)])
