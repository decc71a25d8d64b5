"""The parts of a program that hang together, and its table told by the plain teller of each part."""

from flipwright.leaning import leans, seekers, wanted_by
from flipwright.opening import Opened
from flipwright.plain import check_bound, plain_table


# The steps' numbers in sets, each a list, of sees that hang together and what they want; the ask's set is the last.
def sets_apart(one):
    leaning = leans(one)
    found = []
    for place in seekers(one):
        together = wanted_by([place], leaning)
        others = []
        for each in found:
            if len(set(each) & set(together)) > 0:
                together = together + each
            else:
                others.append(each)
        found = others + [together]
    return found


def first_see(one, places):
    return min([place for place in places if one.steps[place][0] == -1])


def steps_at(one, places):
    return [one.steps[place] for place in sorted(set(places))]


# Sees alone ask nothing, so an ask that always tells 1 stands behind them.
def sees_part(one, places):
    asked = (one.slots, ("num", 1))
    return Opened(steps_at(one, places) + [asked], one.draws, one.slots + 1)


def apart(one):
    found = sets_apart(one)
    ask_part = Opened(steps_at(one, found[-1]), one.draws, one.slots)
    others = sorted(found[:-1], key=lambda places: first_see(one, places))
    return (ask_part, [sees_part(one, places) for places in others])


def left_table(one):
    both = apart(one)
    parts = [both[0]] + both[1]
    # All bounds first: the TooMuch of any part goes ahead of the Never of every other.
    for part in parts:
        check_bound(part)
    tables = [plain_table(part) for part in parts]
    return tables[0]
