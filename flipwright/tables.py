"""Outcomes in order, and tables: with which share each outcome comes."""

from flipwright.errors import Never
from flipwright.ratios import NOUGHT, fraction, over, plus, times


def rank(outcome):
    # The kind goes ahead, since Python compares no two outcomes of different kinds.
    if outcome is None:
        return (0,)
    if isinstance(outcome, int):
        return (1, outcome)
    return (2, outcome)


def in_order(outcomes):
    kept = {}
    for outcome in outcomes:
        kept[outcome] = True
    return sorted(kept, key=rank)


# Apart from table, whose name the functions below have as a parameter.
def gathered(pairs):
    shares = {}
    for outcome, share in pairs:
        shares[outcome] = plus(shares.get(outcome, NOUGHT), share)
    return [(outcome, shares[outcome]) for outcome in in_order(list(shares)) if shares[outcome] != NOUGHT]


def table(pairs):
    return gathered(pairs)


def total(table):
    whole = NOUGHT
    for outcome, share in table:
        whole = plus(whole, share)
    return whole


def scaled(table):
    whole = total(table)
    if whole == NOUGHT:
        raise Never("a table without shares can't be scaled")
    return [(outcome, over(share, whole)) for outcome, share in table]


def mixed(parts):
    pairs = []
    for weight, part in parts:
        for outcome, share in part:
            pairs.append((outcome, times(weight, share)))
    return gathered(pairs)


def without(table, outcome):
    return [(each, share) for each, share in table if each != outcome]


def turned(table, how):
    # A copy is walked: what is asked of how may change the asker's list.
    return gathered([(how(outcome), share) for outcome, share in list(table)])


def share_of(table, outcome):
    for each, share in table:
        if each == outcome:
            return share
    return NOUGHT


def weights_of(draw):
    return [weight for number, weight in draw]


def draw_shares(draw):
    weights = weights_of(draw)
    return [fraction(weight, sum(weights)) for weight in weights]
