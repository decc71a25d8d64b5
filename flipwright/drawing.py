"""Answers for told numbers: each answer comes for its exact share of them."""

from flipwright.errors import Never, NoNumber, TooMuch
from flipwright.running import Hand
from flipwright.tables import weights_of
from flipwright.weighing import from_below, graph_of

MOST_SPANS = 1024


def bases(one):
    return [sum(weights_of(draw)) for draw in one.draws]


# The first index at which the sum of the counts up to it, itself counted in, is above the number.
def index_above(number, counts):
    whole = 0
    for index, each in enumerate(counts):
        whole += each
        if whole > number:
            return index
    return len(counts) - 1


class Numbered(Hand):
    def __init__(self, numbers):
        Hand.__init__(self)
        self.numbers = list(numbers)

    def index_at(self, site, draw):
        return index_above(self.numbers[site], weights_of(draw))


# How many rows of numbers lead to another outcome than None with each index of a question.
def index_counts(part, weights, counts):
    own = weights[part[1]]
    # Of the child's rows each has any number at this site, being ahead of the child's own.
    return [counts[child] // sum(own) * weight for weight, child in zip(own, part[2])]


# For each part how many rows of numbers lead from it to another outcome than None, whatever numbers they have at the
# draws that aren't asked of, those ahead of the part's own site among them.
def row_counts(parts, weights):
    free = 1
    for own in weights:
        free *= sum(own)
    return from_below(parts, free, lambda part, found: sum(index_counts(part, weights, found)))


def count_ways(parts):
    return from_below(parts, 1, lambda part, found: sum([found[child] for child in part[2]]))[-1]


class Drawer:
    def __init__(self, one):
        self.parts = graph_of(one)
        self.weights = [weights_of(draw) for draw in one.draws]
        self.counts = row_counts(self.parts, self.weights)
        self.many = self.counts[-1]
        if self.many == 0:
            raise Never("no row of numbers has all that is seen")

    # The span with this number in it.
    def span_at(self, number):
        begin = 0
        end = self.many
        way = []
        # Of the rows that lead on from a part, those that came this way: top of each bottom.
        top = 1
        bottom = 1
        part = self.parts[-1]
        while part[0] == "ask":
            counts = [each // bottom * top for each in index_counts(part, self.weights, self.counts)]
            index = index_above(number - begin, counts)
            begin += sum(counts[:index])
            end = begin + counts[index]
            way.append((part[1], index))
            top *= self.weights[part[1]][index]
            bottom *= sum(self.weights[part[1]])
            part = self.parts[part[2][index]]
        return (begin, end, way, part[1])

    def drawn(self, number):
        if not 0 <= number < self.many:
            raise NoNumber("a number is from 0 to less than the count")
        span = self.span_at(number)
        return (span[2], span[3])

    def spans(self):
        # Counted first: there may be far more ways than can be gone through.
        if count_ways(self.parts) > MOST_SPANS:
            raise TooMuch("at most 1024 ways are told as spans")
        found = [self.span_at(0)]
        while found[-1][1] < self.many:
            found.append(self.span_at(found[-1][1]))
        return found
