"""An opened program's graph, grown in a keeper of graphs."""

from flipwright.opening import parts_of
from flipwright.running import figured


def grown_draw(site, draw, graphs):
    return graphs.asked(site, [graphs.leaf(number) for number, weight in draw])


def grown_term(term, held, draws, graphs):
    kind = term[0]
    if kind == "num":
        return graphs.leaf(term[1])
    if kind == "slot":
        return held[term[1]]
    if kind == "draw":
        return grown_draw(term[1], draws[term[1]], graphs)
    if kind == "bind":
        # A copy: the slot is bound within the inner part alone.
        inner_held = dict(held)
        inner_held[term[1]] = grown_term(term[2], held, draws, graphs)
        return grown_term(term[3], inner_held, draws, graphs)
    parts = []
    for part in parts_of(term):
        parts.append(grown_term(part, held, draws, graphs))
    if kind == "if":
        return graphs.chosen(parts[0], parts[1], parts[2])
    if kind == "record":
        return graphs.joined_counts(parts, lambda values: figured(term, values))
    return graphs.joined(parts, lambda values: figured(term, values))


def grown(one, graphs):
    nothing = graphs.leaf(None)
    no = graphs.leaf(0)
    seen = graphs.leaf(1)
    held = {}
    part = nothing
    for slot, term in one.steps:
        part = grown_term(term, held, one.draws, graphs)
        if slot != -1:
            held[slot] = part
        else:
            # What was seen ahead leads to 1 and 0 alone, so the part told does, too.
            seen = graphs.chosen(part, seen, no)
    return graphs.chosen(seen, part, nothing)
