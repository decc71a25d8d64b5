"""The prices of listed parts, and the likeliest row of choices of a program."""

from flipwright.errors import Never
from flipwright.ratios import fraction
from flipwright.tables import weights_of
from flipwright.weighing import from_below, graph_of

# Rows of choices are held against each other by the products of their weights, which are whole numbers: the product
# of the draws' sums of weights beneath them is the same for all rows, so shares are made at the end alone.


def first_greatest(numbers):
    return numbers.index(max(numbers))


# What a row weighs with each index of a question, where it otherwise goes on as is heaviest for the child.
def index_weights(part, draws, heaviest):
    weights = weights_of(draws[part[1]])
    # The child's row has this draw at its greatest weight, being ahead of the child's own site.
    return [heaviest[child] // max(weights) * weight for weight, child in zip(weights, part[2])]


# For each part the weight of the heaviest row that leads from it to another outcome than None, 0 where none does. So
# the draws that aren't asked of, those ahead of the part's own site among them, are at their greatest weights.
def row_weights(parts, draws):
    free = 1
    for draw in draws:
        free *= max(weights_of(draw))
    return from_below(parts, free, lambda part, found: max(index_weights(part, draws, found)))


# For each site, and behind the last one, the greatest weights of the draws ahead of it times the sums of the others'.
def bottoms(draws):
    bottom = 1
    for draw in draws:
        bottom *= sum(weights_of(draw))
    found = [bottom]
    for draw in draws:
        weights = weights_of(draw)
        bottom = bottom // sum(weights) * max(weights)
        found.append(bottom)
    return found


def prices(parts, draws):
    by_site = bottoms(draws)
    found = []
    for part, weight in zip(parts, row_weights(parts, draws)):
        site = part[1] if part[0] == "ask" else len(draws)
        found.append(fraction(weight, by_site[site]))
    return found


def likeliest(one):
    parts = graph_of(one)
    heaviest = row_weights(parts, one.draws)
    if heaviest[-1] == 0:
        raise Never("no row of choices has all that is seen")
    choices = [first_greatest(weights_of(draw)) for draw in one.draws]
    part = parts[-1]
    while part[0] == "ask":
        index = first_greatest(index_weights(part, one.draws, heaviest))
        choices[part[1]] = index
        part = parts[part[2][index]]
    return (choices, fraction(heaviest[-1], bottoms(one.draws)[0]))
