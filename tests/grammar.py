"""The grammar of point 13 once more, for the tests: which tokens can follow which."""

SIGNS = ("<->", "->", "!", "X", "F", "G", "Y", "Z", "O", "H", "&", "|", "U", "W", "R", "S", "T", "(", ")", ",", ":")
WORDS = ("true", "false", "exists", "forall")

# Every way to write each rule; a rule that may be empty has an empty way.
RULES = {
    "property": (("formula",), ("quantifier", "name", "names", ":", "formula")),
    "quantifier": (("exists",), ("forall",)),
    "names": ((), (",", "name", "names")),
    "formula": (("implication",), ("implication", "<->", "formula")),
    "implication": (("disjunction",), ("disjunction", "->", "implication")),
    "disjunction": (("conjunction",), ("disjunction", "|", "conjunction")),
    "conjunction": (("binary",), ("conjunction", "&", "binary")),
    "binary": (("unary",),) + tuple(("unary", sign, "binary") for sign in "UWRST"),
    "unary": tuple((sign, "unary") for sign in "!XFGYZOH")
    + (("true",), ("false",), ("name",), ("(", "formula", ")")),
}


def closure(chart, items):
    """Return the items and all that they predict or complete (after Earley)."""
    found = list(dict.fromkeys(items))
    done = set(found)
    place = len(chart)
    for item in found:
        head, body, dot, origin = item
        if dot < len(body):
            symbol = body[dot]
            new = [(symbol, way, 0, place) for way in RULES.get(symbol, ())]
            if symbol == "names":
                new.append((head, body, dot + 1, origin))
        else:
            before = found if origin == place else chart[origin]
            new = [(other, way, at + 1, start) for other, way, at, start in before
                   if at < len(way) and way[at] == head]
        for one in new:
            if one not in done:
                done.add(one)
                found.append(one)
    return found


def first_wrong(kinds):
    """Return the index of the first token with which no property can go on.

    Returns len(kinds) if the tokens end too early, and None if they are a property.
    """
    chart = []
    items = closure(chart, [("property", way, 0, 0) for way in RULES["property"]])
    for index, kind in enumerate(kinds):
        moved = [(head, body, dot + 1, origin) for head, body, dot, origin in items
                 if dot < len(body) and body[dot] == kind]
        if not moved:
            return index
        chart.append(items)
        items = closure(chart, moved)
    complete = any(head == "property" and dot == len(body) for head, body, dot, _ in items)
    return None if complete else len(kinds)
