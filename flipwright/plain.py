"""The plain teller: each way that a run can come to, and the table of them all."""

from flipwright.errors import TooMuch
from flipwright.opening import bound
from flipwright.ratios import fraction
from flipwright.running import Hand, run, told
from flipwright.tables import scaled, table, weights_of

MOST_WAYS = 1024


class Walker(Hand):
    def __init__(self, begun):
        Hand.__init__(self)
        self.begun = begun
        self.widths = []
        # Kept apart, and made a fraction once the way is done: that is far quicker than a product of fractions.
        self.top = 1
        self.bottom = 1

    def index_at(self, site, draw):
        place = len(self.taken)
        index = self.begun[place] if place < len(self.begun) else 0
        self.widths.append(len(draw))
        self.top *= draw[index][1]
        self.bottom *= sum(weights_of(draw))
        return index

    # None behind the last way.
    def next_begun(self):
        indexes = [index for site, index in self.taken]
        while len(indexes) > 0:
            raised = indexes.pop() + 1
            if raised < self.widths[len(indexes)]:
                return indexes + [raised]
        return None


def walked(go):
    found = []
    begun = []
    while begun is not None:
        hand = Walker(begun)
        outcome = go(hand)
        found.append((hand.taken, fraction(hand.top, hand.bottom), outcome))
        begun = hand.next_begun()
    return found


def term_ways(term, held, draws):
    return walked(lambda hand: told(term, held, draws, hand))


def check_bound(one):
    if bound(one) > MOST_WAYS:
        raise TooMuch("a program's bound is at most 1024 where its ways are told")


def ways(one):
    check_bound(one)
    return walked(lambda hand: run(one, hand))


def plain_table(one):
    return scaled(table([(outcome, share) for taken, share, outcome in ways(one) if outcome is not None]))
