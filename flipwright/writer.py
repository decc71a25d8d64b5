"""How a program is written, in one way."""

# Which ops stand without brackets as the left and as the right part of an op.
BARE_LEFT = {
    "=": ("+", "-", "*"), "<": ("+", "-", "*"), "+": ("+", "-", "*"), "-": ("+", "-", "*"), "*": ("*",)}
BARE_RIGHT = {
    "=": ("+", "-", "*"), "<": ("+", "-", "*"), "+": ("*",), "-": ("*",), "*": ()}


def in_place(term, bare):
    text = shown_term(term)
    if term[0] == "op" and term[1] not in bare:
        return f"({text})"
    return text


def shown_op(term):
    sign = term[1]
    left = in_place(term[2], BARE_LEFT[sign])
    right = in_place(term[3], BARE_RIGHT[sign])
    return f"{left} {sign} {right}"


def shown_terms(terms):
    return ", ".join([shown_term(term) for term in terms])


def shown_outcome(pair):
    number = pair[0]
    weight = pair[1]
    return f"{number}:{weight}"


def shown_field(pair):
    name = pair[0]
    text = shown_term(pair[1])
    return f"{name}: {text}"


def shown_listed(term):
    kind = term[0]
    if kind == "pick":
        text = ", ".join([shown_outcome(pair) for pair in term[1]])
        return f"pick({text})"
    if kind == "record":
        text = ", ".join([shown_field(pair) for pair in term[1]])
        return "{" + text + "}"
    if kind == "if":
        text = shown_terms(term[1:])
        return f"if({text})"
    name = term[1]
    text = shown_terms(term[2])
    return f"{name}({text})"


def shown_term(term):
    kind = term[0]
    if kind == "num":
        return str(term[1])
    if kind == "name":
        return term[1]
    if kind == "op":
        return shown_op(term)
    if kind == "field":
        return in_place(term[1], ()) + "." + term[2]
    if kind == "flip":
        top = term[1]
        bottom = term[2]
        return f"flip({top}/{bottom})"
    if kind == "rest":
        inner = shown_term(term[1])
        number = term[2]
        return f"rest({inner}, {number})"
    return shown_listed(term)


def shown_row(row):
    kind = row[0]
    text = shown_term(row[-1])
    if kind == "def":
        name = row[1]
        names = ", ".join(row[2])
        return f"def {name}({names}) = {text}"
    if kind == "let":
        name = row[1]
        return f"let {name} = {text}"
    if kind == "again":
        rounds = row[1]
        name = row[2]
        return f"again {rounds} {name} = {text}"
    return f"{kind} {text}"


def shown(program):
    return "\n".join([shown_row(row) for row in program])
