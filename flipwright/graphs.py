"""A keeper of graphs of choices: parts that are leaves or questions, each kept once, no question needless."""

from flipwright.errors import NoOrder, TooMuch
from flipwright.running import counted


class Graphs:
    def __init__(self, most=2000):
        self.most = most
        self.kept = []
        self.numbers = {}

    def keep(self, held):
        if held not in self.numbers:
            if len(self.kept) >= self.most:
                raise TooMuch("the keeper keeps as many parts as it may")
            self.numbers[held] = len(self.kept)
            self.kept.append(held)
        return self.numbers[held]

    def leaf(self, outcome):
        return self.keep(("leaf", outcome))

    def asked(self, site, children):
        below = self.first_site(children)
        if below is not None and below <= site:
            raise NoOrder("a question's children are leaves or questions of greater sites")
        if len(set(children)) == 1:
            return children[0]
        return self.keep(("ask", site, tuple(children)))

    def at(self, part):
        held = self.kept[part]
        if held[0] == "leaf":
            return held
        return ("ask", held[1], list(held[2]))

    def size(self):
        return len(self.kept)

    def down(self, part, choices):
        held = self.kept[part]
        while held[0] == "ask":
            held = self.kept[held[2][choices[held[1]]]]
        return held[1]

    # None where all are leaves.
    def first_site(self, parts):
        return min([self.kept[part][1] for part in parts if self.kept[part][0] == "ask"], default=None)

    def asks_at(self, part, site):
        return self.kept[part][0] == "ask" and self.kept[part][1] == site

    # The parts to which an index at this site leads from each of these, none of which asks of a lesser site.
    def parts_at(self, parts, site, index):
        return [self.kept[part][2][index] if self.asks_at(part, site) else part for part in parts]

    # How many outcomes the site has, of which one of these parts asks at least.
    def width_at(self, parts, site):
        return max([len(self.kept[part][2]) for part in parts if self.asks_at(part, site)])

    # Gives each part beneath, and the part itself, its place in the order in which one is done with them.
    def find_places(self, part, places):
        if part in places:
            return
        held = self.kept[part]
        if held[0] == "ask":
            for child in held[2]:
                self.find_places(child, places)
        places[part] = len(places)

    def listed(self, part):
        places = {}
        self.find_places(part, places)
        rows = []
        for each in places:
            held = self.kept[each]
            if held[0] == "ask":
                held = ("ask", held[1], [places[child] for child in held[2]])
            rows.append(held)
        return rows

    # Of the parts that lead alike, as far as what how tells of an outcome matters, one stands in for all. Told is
    # which one, of each part beneath these. Where many parts are gone through together, far fewer rows of parts come
    # up so, and nothing has to be kept for it.
    def stand_ins(self, parts, how):
        places = {}
        for part in parts:
            self.find_places(part, places)
        stands = {}
        firsts = {}
        for part in places:
            held = self.kept[part]
            if held[0] == "leaf":
                stands[part] = firsts.setdefault(("leaf", how(held[1])), part)
                continue
            children = tuple([stands[child] for child in held[2]])
            if len(set(children)) == 1:
                stands[part] = children[0]
            else:
                stands[part] = firsts.setdefault(("ask", held[1], children), part)
        return stands

    def join_row(self, parts, how, stands, done):
        row = tuple([stands.get(part, part) for part in parts])
        if row not in done:
            site = self.first_site(row)
            if site is None:
                done[row] = self.leaf(how([self.kept[part][1] for part in row]))
            else:
                children = []
                for index in range(self.width_at(row, site)):
                    children.append(self.join_row(self.parts_at(row, site, index), how, stands, done))
                done[row] = self.asked(site, children)
        return done[row]

    def joined(self, parts, how):
        return self.join_row(parts, how, {}, {})

    # As joined, for a function that asks of each outcome only what it counts.
    def joined_counts(self, parts, how):
        return self.join_row(parts, how, self.stand_ins(parts, counted), {})

    def choose_row(self, parts, stands, done):
        row = (stands[parts[0]], parts[1], parts[2])
        if row[1] == row[2]:
            return row[1]
        held = self.kept[row[0]]
        if held[0] == "leaf":
            return row[1] if counted(held[1]) != 0 else row[2]
        if row not in done:
            site = self.first_site(row)
            children = []
            for index in range(self.width_at(row, site)):
                children.append(self.choose_row(self.parts_at(row, site, index), stands, done))
            done[row] = self.asked(site, children)
        return done[row]

    def chosen(self, test, one, other):
        stands = self.stand_ins([test], lambda outcome: counted(outcome) != 0)
        return self.choose_row([test, one, other], stands, {})
