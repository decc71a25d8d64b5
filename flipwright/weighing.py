"""Graphs weighed from below: the table of each part, and so the program's."""

from flipwright.graphs import Graphs
from flipwright.growing import grown
from flipwright.ratios import WHOLE
from flipwright.tables import draw_shares, mixed, scaled, without


def graph_of(one):
    graphs = Graphs()
    return graphs.listed(grown(one, graphs))


def weighed_question(draw, tables):
    return mixed(list(zip(draw_shares(draw), tables)))


def weighed(parts, draws):
    tables = []
    for part in parts:
        if part[0] == "leaf":
            tables.append([(part[1], WHOLE)])
        else:
            tables.append(weighed_question(draws[part[1]], [tables[child] for child in part[2]]))
    return tables


# A whole number for each part: of None 0, of every other leaf what is told, of a question what the function tells of
# it and of the numbers beneath it.
def from_below(parts, at_leaf, how):
    found = []
    for part in parts:
        if part[0] == "ask":
            found.append(how(part, found))
        else:
            found.append(0 if part[1] is None else at_leaf)
    return found


def graph_table(one):
    tables = weighed(graph_of(one), one.draws)
    return scaled(without(tables[-1], None))
