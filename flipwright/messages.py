"""The teller by bags: each bag filled with what its slots hold, of all runs in which everything seen is so."""

from flipwright.bags import bags, cost_within
from flipwright.errors import Never, TooMuch
from flipwright.ranges import factors_within, ranges, rows_of
from flipwright.ratios import fraction, greatest_divisor
from flipwright.tables import in_order

MOST_COST = 20000

# All is reckoned with whole numbers, weights, that are made shares at the end alone, each bag's by their sum: so it
# doesn't matter if all weights of a factor or of a bag are too great by the same number.


def factor_weights(rows):
    bottom = 1
    for values, share in rows:
        bottom = bottom // greatest_divisor(bottom, share[1]) * share[1]
    return dict([(values, share[0] * (bottom // share[1])) for values, share in rows])


# For each bag a list of pairs (slots, weights) by which its rows are weighed. A factor goes to the bag of that slot of
# it which is taken out first: this one has all its slots.
def weighers_of(found, factors):
    numbers = {}
    for slot, bag, up in found:
        numbers[slot] = len(numbers)
    weighers = [[] for bag in found]
    for slots, rows in factors:
        if len(slots) > 0:
            weighers[min([numbers[slot] for slot in slots])].append((slots, factor_weights(rows)))
        elif len(rows) == 0:
            raise Never("what is seen can't be, whatever the slots hold")
    return weighers


def places_in(bag, slots):
    return [bag.index(slot) for slot in slots]


def values_at(row, places):
    return tuple([row[place] for place in places])


# Rows that weigh nothing are left out, here and below.
def weighed_rows(bag, by_slot, weighers):
    placed = [(places_in(bag, slots), weights) for slots, weights in weighers]
    found = []
    for row in rows_of([by_slot[slot] for slot in bag]):
        weight = 1
        for places, weights in placed:
            weight *= weights.get(values_at(row, places), 0)
            if weight == 0:
                break
        if weight != 0:
            found.append((row, weight))
    return found


# What a bag's rows weigh in all, by the values of these slots of it.
def summed(bag, rows, slots):
    places = places_in(bag, slots)
    sums = {}
    for row, weight in rows:
        values = values_at(row, places)
        sums[values] = sums.get(values, 0) + weight
    return sums


def without_own(slot, bag):
    return [other for other in bag if other != slot]


# The rows of each bag, weighed by its own factors and by all beneath it.
def weighed_upwards(found, by_slot, factors):
    weighers = weighers_of(found, factors)
    told = []
    for slot, bag, up in found:
        rows = weighed_rows(bag, by_slot, weighers[len(told)])
        if len(rows) == 0:
            raise Never("no run has all that is seen")
        if up is not None:
            others = without_own(slot, bag)
            weighers[up].append((others, summed(bag, rows, others)))
        told.append(rows)
    return told


def weighed_anew(bag, rows, slots, above):
    beneath = summed(bag, rows, slots)
    places = places_in(bag, slots)
    found = []
    for row, weight in rows:
        values = values_at(row, places)
        if values in above:
            # What lies beneath was once put into the weights above, so it divides them.
            found.append((row, above[values] // beneath[values] * weight))
    return found


# The rows of each bag, weighed by all factors of what hangs together with it.
def weighed_downwards(found, upwards):
    told = list(upwards)
    for number in range(len(found) - 1, -1, -1):
        bag = found[number][1]
        up = found[number][2]
        if up is not None:
            others = without_own(found[number][0], bag)
            above = summed(found[up][1], told[up], others)
            told[number] = weighed_anew(bag, upwards[number], others, above)
    return told


# Tuples (slot, bag, rows), the bags in their order, rows pairs (values, weight).
def weighed_bags(one):
    by_slot = dict(ranges(one))
    found = bags(one)
    if cost_within(found, by_slot) > MOST_COST:
        raise TooMuch("a program's cost is at most 20000 where its bags are filled")
    upwards = weighed_upwards(found, by_slot, factors_within(one, by_slot))
    return [(each[0], each[1], rows) for each, rows in zip(found, weighed_downwards(found, upwards))]


def row_shares(rows):
    whole = sum([weight for values, weight in rows])
    return [(values, fraction(weight, whole)) for values, weight in rows]


def filled(one):
    return [(bag, row_shares(rows)) for slot, bag, rows in weighed_bags(one)]


def slot_table(slot, bag, rows):
    sums = summed(bag, rows, [slot])
    shares = dict(row_shares(list(sums.items())))
    return [(value, shares[(value,)]) for value in in_order([values[0] for values in sums])]


def slot_tables(one):
    told = [(slot, slot_table(slot, bag, rows)) for slot, bag, rows in weighed_bags(one)]
    return sorted(told, key=lambda pair: pair[0])


def bags_table(one):
    # Slots rise from step to step, and the ask's is the last one.
    return slot_tables(one)[-1][1]
