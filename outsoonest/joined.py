"""Both at once: the first lot saved, and at every beat as many out as can be."""

from outsoonest.errors import Refused
from outsoonest.linking import Linking, first_of, led_people
from outsoonest.people import is_lot_of
from outsoonest.soonest import best_flow, soonest_of
from outsoonest.unrolled import check_task, is_flow_of, need_flow_of, need_lot_of, of_lot, out_by_flow


def both(task):
    """The first lot that can be out by the end, and by beat how many of it alone can be out at most."""
    task = check_task(task)
    lot = first_of(task)
    return lot, soonest_of(of_lot(task, lot))


def best_of(task, lot):
    """Some flow of a checked task that leads a lot of it alone out, at every beat as many as can be."""
    return best_flow(of_lot(task, lot))


def both_flow(task):
    """Some flow of the task of the first lot alone that has by every beat as many out as can be."""
    task = check_task(task)
    return best_of(task, first_of(task))


def both_holds(task, lot, flow):
    """Whether any values are the first lot, and a flow of it alone that is best at every beat for all people."""
    task = check_task(task)
    if not is_lot_of(task[1], lot) or tuple(lot) != first_of(task):
        return False
    part = of_lot(task, lot)
    return is_flow_of(part, flow) and out_by_flow(part, flow) == soonest_of(task)


def people_of(task, flow):
    """The ascending persons whom a flow leads out, those who begin in ways out among them."""
    task = check_task(task)
    return led_people(task, need_flow_of(task, flow))


def swapped_to(task, flow, lot):
    """The flow of a checked task swapped to a lot, and the swaps; None if there is no way on."""
    people = led_people(task, flow)
    linking = Linking(task, flow, people)
    left = [person for person in people if person not in lot]
    swaps = []
    for person in lot:
        if person not in people:
            # To whom was left out already no walk comes any more.
            other = linking.swap(person, left)
            if other is None:
                return None
            swaps.append((person, other))
    return linking.flow(), tuple(swaps)


def swapped(task, flow, lot):
    """Some flow of a lot alone with as many out by every beat, and (taken in, left out) of each way gone."""
    task = check_task(task)
    flow = need_flow_of(task, flow)
    told = swapped_to(task, flow, need_lot_of(task, lot))
    if told is None or len(lot) != len(led_people(task, flow)):
        raise Refused(lot)
    return told


def joined(task):
    """The first lot, some flow of it that is best at every beat, and the swaps that made it so."""
    task = check_task(task)
    lot = first_of(task)
    flow, swaps = swapped_to(task, best_flow(task), lot)
    return lot, flow, swaps
