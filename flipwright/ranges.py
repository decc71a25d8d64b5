"""The ranges of a program's slots, and the factors of its steps."""

from flipwright.errors import TooMuch
from flipwright.leaning import leaned_slots
from flipwright.opening import bound_of
from flipwright.plain import term_ways
from flipwright.ratios import NOUGHT
from flipwright.running import counted
from flipwright.tables import in_order, table, total

MOST_ROWS = 20000


# Looked at ahead of going through any row: there may be far more of them than can be gone through.
def check_product(term, lists, draws):
    product = bound_of(term, draws)
    for values in lists:
        product *= len(values)
    if product > MOST_ROWS:
        raise TooMuch("a step's ranges times its bound are at most 20000")


# All rows with a value from each of these lists, in the order of the lists' values.
def rows_of(lists):
    rows = [()]
    for values in lists:
        longer = []
        for row in rows:
            longer.extend([row + (value,) for value in values])
        rows = longer
    return rows


def values_told(term, slots, lists, draws):
    found = {}
    for row in rows_of(lists):
        for taken, share, value in term_ways(term, dict(zip(slots, row)), draws):
            found[value] = True
    return in_order(list(found))


def ranges(one):
    by_slot = {}
    for step, slots in zip(one.steps, leaned_slots(one)):
        lists = [by_slot[slot] for slot in slots]
        check_product(step[1], lists, one.draws)
        if step[0] != -1:
            by_slot[step[0]] = values_told(step[1], slots, lists, one.draws)
    return list(by_slot.items())


def term_table(term, held, draws):
    return table([(value, share) for taken, share, value in term_ways(term, held, draws)])


def let_rows(row, told):
    return [(row + (value,), share) for value, share in told]


def see_rows(row, told):
    share = total([pair for pair in told if counted(pair[0]) != 0])
    return [(row, share)] if share != NOUGHT else []


# The slots of a step's factor. Slots rise from step to step, so the own one stands behind those that it leans on.
def with_own(step, slots):
    return slots if step[0] == -1 else slots + [step[0]]


def factor_of(step, slots, lists, draws):
    rows = []
    for row in rows_of(lists):
        told = term_table(step[1], dict(zip(slots, row)), draws)
        rows.extend(see_rows(row, told) if step[0] == -1 else let_rows(row, told))
    return (with_own(step, slots), rows)


# For those who have the ranges already, as a dict from slots to values.
def factors_within(one, by_slot):
    found = []
    for step, slots in zip(one.steps, leaned_slots(one)):
        found.append(factor_of(step, slots, [by_slot[slot] for slot in slots], one.draws))
    return found


def factors(one):
    return factors_within(one, dict(ranges(one)))
