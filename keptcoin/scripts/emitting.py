"""The code of scripts: programs of routines for the machine."""

from keptcoin.scripts.terms import FUNCTIONS, head_word, parts


class Code:
    """The instructions of a routine, as far as they are written."""

    def __init__(self, routines):
        # The indexes of the routines of the definitions, by name.
        self.routines = routines
        self.instructions = []

    def write(self, *instruction):
        """Adds an instruction."""
        self.instructions.append(instruction)

    def tick(self):
        """Adds a tick, or makes the one that stands last count for one more."""
        if self.instructions and self.instructions[-1][0] == "tick":
            self.instructions[-1] = ("tick", self.instructions[-1][1] + 1)
        else:
            self.write("tick", 1)

    def leave_gap(self):
        """Leaves the place of a jump free, whose target is not known yet, and returns that place."""
        self.write("gap")
        return len(self.instructions) - 1

    def fill_gap(self, at, word):
        """Writes the jump to the end of what is written at a place that was left free."""
        self.instructions[at] = (word, len(self.instructions))

    def emit(self, term, names):
        """Adds the code of a term with these variables bound, the latest one last."""
        self.tick()
        special = _SPECIAL.get(head_word(term))
        if special is not None:
            special(self, term, names)
            return
        for part in parts(term):
            self.emit(part, names)
        self.instructions.append(_last_of(term, self.routines))


def emit_term(term, names, routines):
    """The list of the instructions of a term."""
    code = Code(routines)
    code.emit(term, names)
    return code.instructions


def emit_script(script):
    """The program of a script."""
    definitions, body = script
    routines = {}
    program = []
    for name, parameters, term in definitions:
        program.append(_routine(parameters, term, routines))
        routines[name] = len(routines)
    program.append(_routine((), body, routines))
    return tuple(program)


def _routine(parameters, term, routines):
    instructions = emit_term(term, list(parameters), routines)
    return (len(parameters), (*instructions, ("return",)))


def _last_of(term, routines):
    """The instruction behind the parts of a term all of whose parts come one behind the other."""
    form = term[0]
    if form in ("minus", "not", "pair"):
        return (form,)
    if form == "binary":
        return ("compute", term[1])
    if form == "list":
        return ("list", len(term[1]))
    if form == "call":
        name = term[1]
        return ("apply", name) if name in FUNCTIONS else ("call", routines[name])
    # Numbers, truths, facts and fail are written as they are.
    return term


# The forms below do something between their parts, or do not take all of them.


def _variable(code, term, names):
    code.write("load", names[::-1].index(term[1]))


def _let(code, term, names):
    first, second = parts(term)
    code.emit(first, names)
    code.write("bind")
    code.emit(second, [*names, term[1]])
    code.write("drop", 1)


def _connective(code, term, names):
    first, second = parts(term)
    code.emit(first, names)
    over = code.leave_gap()
    code.emit(second, names)
    code.fill_gap(over, head_word(term))


def _if(code, term, names):
    condition, first, second = parts(term)
    code.emit(condition, names)
    unless = code.leave_gap()
    code.emit(first, names)
    jump = code.leave_gap()
    code.fill_gap(unless, "unless")
    code.emit(second, names)
    code.fill_gap(jump, "jump")


def _fold(code, term, names):
    items, start, each = parts(term)
    code.emit(items, names)
    code.emit(start, names)
    code.write("open")
    head = code.leave_gap()
    code.emit(each, [*names, term[1], term[2]])
    code.write("again", head)
    code.fill_gap(head, "each")


def _note(code, term, names):
    noted, behind = parts(term)
    code.emit(noted, names)
    code.write("note")
    code.emit(behind, names)


_SPECIAL = {
    "variable": _variable,
    "let": _let,
    "and": _connective,
    "or": _connective,
    "if": _if,
    "fold": _fold,
    "note": _note,
}
