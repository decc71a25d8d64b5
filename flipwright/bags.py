"""The bags of a program: its slots taken out one by one, each with its neighbours, and what the bags cost."""

from flipwright.leaning import leaned_slots
from flipwright.ranges import ranges, with_own


def make_neighbours(around, slots):
    for slot in slots:
        for other in slots:
            if other != slot:
                around[slot][other] = True


# For each slot of a step its neighbours, as a dict: told by what steps lean on, so that no range has to be known.
def neighbours(one):
    around = {}
    for step, slots in zip(one.steps, leaned_slots(one)):
        if step[0] != -1:
            around[step[0]] = {}
        make_neighbours(around, with_own(step, slots))
    return around


def next_out(around, last):
    waiting = [slot for slot in around if slot != last]
    return min(waiting, key=lambda slot: (len(around[slot]), slot), default=last)


# Pairs of a slot and its neighbours when it is taken out, in the order of taking out.
def taken_out(one):
    around = neighbours(one)
    found = []
    while len(around) > 0:
        slot = next_out(around, one.steps[-1][0])
        others = list(around.pop(slot))
        for other in others:
            around[other].pop(slot)
        make_neighbours(around, others)
        found.append((slot, others))
    return found


def bags(one):
    found = taken_out(one)
    numbers = {}
    for slot, others in found:
        numbers[slot] = len(numbers)
    told = []
    for slot, others in found:
        up = min([numbers[other] for other in others], default=None)
        told.append((slot, sorted(others + [slot]), up))
    return told


def cost_within(found, by_slot):
    whole = 0
    for slot, bag, up in found:
        product = 1
        for each in bag:
            product *= len(by_slot[each])
        whole += product
    return whole


def cost(one):
    return cost_within(bags(one), dict(ranges(one)))
