"""Which steps a step leans on, which steps are wanted, and the program that is left of these alone."""

from flipwright.opening import Opened, parts_of


def slots_read(term):
    kind = term[0]
    if kind == "slot":
        return [term[1]]
    if kind == "bind":
        # Bound is the slot within the inner part alone.
        return slots_read(term[2]) + [slot for slot in slots_read(term[3]) if slot != term[1]]
    found = []
    for part in parts_of(term):
        found.extend(slots_read(part))
    return found


def leans(one):
    places = {}
    found = []
    for place, step in enumerate(one.steps):
        found.append(sorted(set([places[slot] for slot in slots_read(step[1])])))
        if step[0] != -1:
            places[step[0]] = place
    return found


# For each step the sorted slots of those that it leans on.
def leaned_slots(one):
    found = []
    for places in leans(one):
        found.append([one.steps[place][0] for place in places])
    return found


# The sees and, as the last one, the ask.
def seekers(one):
    last = len(one.steps) - 1
    return [place for place, step in enumerate(one.steps) if step[0] == -1 or place == last]


def wanted_by(places, leaning):
    found = dict([(place, True) for place in places])
    # From below, since each step leans on steps above it alone.
    for place in range(len(leaning) - 1, -1, -1):
        if place in found:
            for each in leaning[place]:
                found[each] = True
    return sorted(found)


def wanted(one):
    return wanted_by(seekers(one), leans(one))


def left(one):
    return Opened([one.steps[place] for place in wanted(one)], one.draws, one.slots)
