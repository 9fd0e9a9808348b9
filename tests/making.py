"""Scripts that are made up from the numbers of a seeded generator."""

from keptcoin.amounts.bundle import Bundle
from keptcoin.scripts.facts import Facts
from keptcoin.scripts.inference import annotate
from keptcoin.scripts.terms import FACTS, FUNCTIONS, parts, with_parts

SIGNS = "+ - * div mod == < <= and or".split()
NAMES = "a b c x y zed".split()


def any_term(random, deep, scope, arities):
    """A term with good uses, of any kinds, that is at most so deep."""
    if deep == 1:
        leaves = [("number", random.choice([0, 1, 7, 10 ** 15])), ("truth", random.random() < 0.5), ("fail",),
                  ("fact", random.choice(FACTS)), ("list", ())]
        return random.choice(leaves + [("variable", name) for name in scope])

    def part(*names):
        return any_term(random, random.randint(1, deep - 1), sorted({*scope, *names}), arities)

    form = random.choice("minus not binary binary binary binary pair list call call let if fold note".split())
    if form in ("minus", "not"):
        return (form, part())
    if form == "binary":
        return (form, random.choice(SIGNS), part(), part())
    if form in ("pair", "note"):
        return (form, part(), part())
    if form == "list":
        return (form, tuple([part() for _ in range(random.randint(0, 3))]))
    if form == "call":
        name = random.choice(sorted(arities))
        return (form, name, tuple([part() for _ in range(arities[name])]))
    if form == "if":
        return (form, part(), part(), part())
    name, other = random.sample(NAMES, 2)
    if form == "let":
        return (form, name, part(), part(name))
    return (form, name, other, part(), part(), part(name, other))


def any_script(random, deep):
    """A script with good uses and any kinds."""
    arities = dict(FUNCTIONS)
    definitions = []
    for name in NAMES[:random.choice([0, 0, 1, 2, 3])]:
        parameters = tuple(random.sample(NAMES, random.randint(0, 4)))
        definitions.append((name, parameters, any_term(random, random.randint(1, deep), sorted(parameters), arities)))
        arities[name] = len(parameters)
    return (tuple(definitions), any_term(random, deep, [], arities))


INT, BOOL, OUTPUT = ("int",), ("bool",), ("output",)
INTS, OUTPUTS = ("list", INT), ("list", OUTPUT)
KINDS = [INT, BOOL, INTS, OUTPUTS, ("pair", INT, BOOL), ("pair", INTS, ("pair", INT, INT)), ("list", INTS)]


def leaf_of(random, kind, scope):
    """A small term of a kind."""
    fitting = [("variable", name) for name in sorted(scope) if scope[name] == kind]
    if fitting and random.random() < 0.7:
        return random.choice(fitting)
    if kind == INT:
        return random.choice([("number", random.randint(0, 9)), ("number", 10 ** 15), ("fact", "begins"),
                              ("fact", "ends")])
    if kind == BOOL:
        return random.choice([("truth", True), ("truth", False), ("fact", "guarding")])
    if kind == OUTPUT:
        return ("fact", "here")
    if kind == INTS:
        return random.choice([("list", ()), ("fact", "signers"), ("fact", "datum"), ("fact", "redeemer")])
    if kind == OUTPUTS:
        return random.choice([("fact", "spent"), ("fact", "looked"), ("fact", "made")])
    if kind[0] == "list":
        return ("list", ())
    return ("pair", leaf_of(random, kind[1], scope), leaf_of(random, kind[2], scope))


def term_of(random, kind, deep, scope, definitions):
    """A term of a kind that is at most so deep and a little more; definitions are rows (name, kinds, kind)."""
    if deep <= 1 or random.random() < 0.1:
        return ("fail",) if random.random() < 0.02 else leaf_of(random, kind, scope)

    def part(wanted, **names):
        return term_of(random, wanted, deep - 1, {**scope, **names}, definitions)

    makers = [
        lambda: let_of(random, kind, part),
        lambda: fold_of(random, kind, part),
        lambda: ("if", part(BOOL), part(kind), part(kind)),
        lambda: ("note", part(INT), part(kind)),
        lambda: ("call", "first", (part(("pair", kind, INT)),)),
        lambda: ("call", "second", (part(("pair", BOOL, kind)),)),
        lambda: ("call", "head", (part(("list", kind)),)),
        lambda: ("call", "item", (part(("list", kind)), part(INT))),
    ]
    makers += [lambda row=row: ("call", row[0], tuple([part(wanted) for wanted in row[1]]))
               for row in definitions if row[2] == kind] * 3
    makers += makers_of(random, kind, part) * 3
    return random.choice(makers)()


def let_of(random, kind, part):
    name, wanted = random.choice(NAMES), random.choice(KINDS)
    return ("let", name, part(wanted), part(kind, **{name: wanted}))


def fold_of(random, kind, part):
    name, other = random.sample(NAMES, 2)
    wanted = random.choice([INT, INT, OUTPUT, INTS])
    return ("fold", name, other, part(("list", wanted)), part(kind), part(kind, **{name: wanted, other: kind}))


def makers_of(random, kind, part):
    """What gives terms of this very kind."""
    if kind == INT:
        return [
            lambda: ("minus", part(INT)),
            lambda: ("binary", random.choice(["+", "-", "*", "div", "mod"]), part(INT), part(INT)),
            lambda: ("call", "count", (part(random.choice([INTS, OUTPUTS])),)),
            lambda: ("call", "coin", (part(OUTPUT),)),
            lambda: ("call", "held", (part(OUTPUT), part(INT))),
            lambda: ("call", "minted", (part(INT),)),
        ]
    if kind == BOOL:
        return [
            lambda: ("not", part(BOOL)),
            lambda: ("binary", random.choice(["==", "<", "<="]), part(INT), part(INT)),
            lambda: ("binary", random.choice(["and", "or"]), part(BOOL), part(BOOL)),
            lambda: ("call", "keyed", (part(OUTPUT), part(INT))),
            lambda: ("call", "homed", (part(OUTPUT),)),
            lambda: ("call", "signed", (part(INT),)),
            lambda: ("call", "spends", (part(INT), part(INT))),
        ]
    if kind[0] == "pair":
        return [lambda: ("pair", part(kind[1]), part(kind[2]))]
    if kind[0] == "list":
        makers = [lambda: ("call", "tail", (part(kind),))]
        if kind == INTS:
            makers.append(lambda: ("list", tuple([part(INT) for _ in range(random.randint(1, 3))])))
            makers.append(lambda: ("call", "data", (part(OUTPUT),)))
        return makers
    return []


ROW = ((1, 0), ("script", "x"), Bundle([(("", 0), 12), (("x", 1), 10 ** 15 + 3)]), (4, -5))


def any_facts(random):
    """Facts of all sorts for scripts."""
    rows = [((1, n), random.choice([("key", n), ("script", "x"), ("script", "y")]),
             Bundle([(("", 0), 5 * n), (("x", 1), random.choice([n, 10 ** 15 + n]))]), (n,) * n) for n in range(8)]

    def some(items):
        return random.sample(items, random.choice([0, 1, 2, 8]))

    numbers = [0, 1, 2, 3, 7, -1, 10 ** 15, -10 ** 15]
    return Facts(begins=random.choice(numbers), ends=random.choice(numbers), signers=some(numbers), spent=some(rows),
                 looked=some(rows), made=some(rows), mint=random.choice([(), [(("x", 1), 5), (("x", 2), -10 ** 16)]]),
                 own=random.choice(["x", "y"]), here=random.choice([None, ROW, rows[3]]), datum=some(numbers),
                 redeemer=some(numbers))


def kinded_script(random, deep):
    """A script that has kinds, and the kind of its body."""
    rows, definitions = [], []
    for name in NAMES[:random.choice([0, 1, 2])]:
        parameters = {parameter: random.choice(KINDS) for parameter in random.sample(NAMES, random.randint(0, 2))}
        kind = random.choice([INT, BOOL, INTS])
        definitions.append((name, tuple(parameters), term_of(random, kind, deep, parameters, rows)))
        rows.append((name, tuple(parameters.values()), kind))
    kind = random.choice(KINDS)
    return ((tuple(definitions), term_of(random, kind, deep, {}, rows)), kind)


def complicated(random, script):
    """A script with the same kinds, to whose terms the rules of the simplifier were applied backwards here and there."""
    kinds = annotate(script)
    definitions, body = script
    made = []
    for (name, parameters, term), rows in zip(definitions, kinds):
        made.append((name, parameters, complicated_term(random, term, list(rows))))
    return (tuple(made), complicated_term(random, body, list(kinds[-1])))


def complicated_term(random, term, kinds):
    """The same for a term and the kinds of its terms in the order of walking, which are taken off the list."""
    kind = kinds.pop(0)
    term = with_parts(term, [complicated_term(random, part, kinds) for part in parts(term)])
    return random.choice(blown_up(term, kind)) if random.random() < 0.25 else term


def blown_up(term, kind):
    """Terms that the rules make simpler."""
    zero, one, true, false = ("number", 0), ("number", 1), ("truth", True), ("truth", False)
    found = [
        ("if", true, term, ("fail",)), ("if", false, ("fail",), term), ("if", ("fact", "guarding"), term, term),
        ("if", ("not", ("fact", "guarding")), term, term), ("if", ("fail",), term, term),
        ("call", "first", (("pair", term, one),)), ("call", "second", (("pair", true, term),)),
        ("call", "first", (("pair", term, ("note", one, one)),)), ("let", "q", term, ("variable", "q")),
        ("let", "q", one, term), ("let", "q", ("fact", "here"), term),
        ("fold", "q", "r", ("list", ()), term, ("fail",)),
        ("fold", "q", "r", ("fact", "signers"), term, ("variable", "r")),
    ]
    if kind == INT:
        found += [("binary", "+", term, zero), ("binary", "-", zero, term), ("binary", "*", one, term),
                  ("binary", "div", term, one), ("minus", ("minus", term)), ("binary", "*", term, zero),
                  ("binary", "-", term, term), ("binary", "mod", term, one), ("call", "head", (("list", (term, one)),)),
                  ("call", "item", (("list", (zero, term)), one)), ("call", "count", (("list", (term, zero)),)),
                  ("let", "q", zero, ("binary", "+", term, ("variable", "q"))),
                  ("call", "head", (("call", "tail", (("list", (zero, term)),)),))]
    if kind == BOOL:
        found += [("not", ("not", term)), ("binary", "and", term, true), ("binary", "or", false, term),
                  ("binary", "and", term, false), ("binary", "or", true, term), ("binary", "or", term, term),
                  ("if", term, true, false), ("if", term, false, true), ("binary", "and", term, term)]
    return found
