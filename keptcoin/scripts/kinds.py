"""Kinds, which are what values can be, perhaps with unknowns in them."""

INT = ("int",)
BOOL = ("bool",)
OUTPUT = ("output",)
MOST_SIZE = 40


def inner_kinds(kind):
    """The kinds that stand directly in a kind."""
    return () if kind[0] == "any" else kind[1:]


def kind_size(kind):
    """1 more than the sizes of the kinds directly in the kind."""
    many = 1
    for inner in inner_kinds(kind):
        many += kind_size(inner)
    return many


def format_kind(kind):
    """The text of a kind."""
    form = kind[0]
    if form == "any":
        return "any" + str(kind[1])
    if form == "list":
        return "[" + format_kind(kind[1]) + "]"
    if form == "pair":
        return "(" + format_kind(kind[1]) + ", " + format_kind(kind[2]) + ")"
    return form


def unknowns(kind):
    """The numbers of the unknowns in a kind, from the left, each once."""
    found = {}
    waiting = [kind]
    while waiting:
        leftmost = waiting.pop()
        if leftmost[0] == "any":
            found[leftmost[1]] = True
        # The last one is taken first, so the inner kinds wait in reverse.
        waiting.extend(inner_kinds(leftmost)[::-1])
    return list(found)


def replace(kind, table):
    """The kind with the kinds of a dict in the places of its unknowns, all put in at once."""
    form = kind[0]
    if form == "any":
        return table.get(kind[1], kind)
    if form == "list":
        return ("list", replace(kind[1], table))
    if form == "pair":
        return ("pair", replace(kind[1], table), replace(kind[2], table))
    return kind


def is_instance(kind, general):
    """True if the kind comes from the general one by putting kinds in the places of its unknowns."""
    table = {}
    waiting = [(kind, general)]
    while waiting:
        special, common = waiting.pop()
        if common[0] == "any":
            if table.setdefault(common[1], special) != special:
                return False
        elif special[0] != common[0]:
            return False
        else:
            waiting.extend(list(zip(special[1:], common[1:])))
    return True
