"""The checker: programs that it accepts never lack a value, a binding or a loop in the machine.

A state is a triple (height, bindings, loops): how many values a routine has on the stack, how many bindings it has,
and the tuple of the places of the eaches of its open loops, the innermost last.
"""

from keptcoin.errors import BadCode
from keptcoin.scripts.terms import FACTS, FUNCTIONS, MOST, MOST_DEFINITIONS, MOST_ITEMS, MOST_PARAMETERS

_MOST_ROUTINES = MOST_DEFINITIONS + 1
_MOST_INSTRUCTIONS = 10000
_MOST_TICKS = 10 ** 6

_SIGNS = ("+", "-", "*", "div", "mod", "==", "<", "<=")

# The words, with the numbers of items of their instructions.
_LENGTHS = {
    "tick": 2, "number": 2, "truth": 2, "fact": 2, "fail": 1, "load": 2, "bind": 1, "drop": 2, "minus": 1, "not": 1,
    "note": 1, "compute": 2, "pair": 1, "list": 2, "apply": 2, "call": 2, "jump": 2, "unless": 2, "and": 2, "or": 2,
    "open": 1, "each": 2, "again": 2, "return": 1,
}

# What instructions of one item do that go on at the next place: the values they take and put, the bindings they add.
_EFFECTS = {"fail": (0, 1, 0), "bind": (1, 0, 1), "minus": (1, 1, 0), "not": (1, 1, 0), "note": (1, 0, 0),
            "pair": (2, 1, 0)}


class Passage:
    """The checker on its way through a routine."""

    def __init__(self, program, index):
        # The numbers of the parameters of the routines that may be called.
        self.arities = [parameters for parameters, instructions in program[:index]]
        parameters, self.instructions = program[index]
        self.words = [_word(instruction) for instruction in self.instructions]
        self.states = {0: (0, parameters, ())}

    def passes(self, at):
        """True if all is well at a place. Gives the states that its instruction gives."""
        is_last = at == len(self.instructions) - 1
        if at not in self.states or (self.words[at] == "return") != is_last:
            return False
        given = self.gives(at)
        if given is None:
            return False
        for target, state in given:
            if target >= len(self.instructions) or self.states.setdefault(target, state) != state:
                return False
        return True

    def gives(self, at):
        """The pairs of a place and the state that the instruction gives it; None if the instruction is not good."""
        instruction = self.instructions[at]
        word = self.words[at]
        if len(instruction) != _LENGTHS.get(word):
            return None
        action = _GIVING.get(word)
        if action is not None:
            return action(self, at, instruction[-1])
        effect = _EFFECTS.get(word)
        if effect is None:
            measure = _MEASURED[word]
            effect = measure(self, at, instruction[-1])
        return self.behind(at, effect)

    def behind(self, at, effect):
        """What is given by an instruction that goes on at the next place and has this effect, None for a bad one."""
        height, bindings, loops = self.states[at]
        if effect is None or height < effect[0]:
            return None
        return [(at + 1, (height - effect[0] + effect[1], bindings + effect[2], loops))]


def check_program(program):
    """Raises BadCode if the machine could not run the program."""
    if not program:
        raise BadCode((0, 0))
    if len(program) > _MOST_ROUTINES:
        raise BadCode((_MOST_ROUTINES, 0))
    for index in range(len(program)):
        if not _is_routine(program, index):
            raise BadCode((index, 0))
        passage = Passage(program, index)
        for at in range(len(passage.instructions)):
            if not passage.passes(at):
                raise BadCode((index, at))


def _is_routine(program, index):
    """True if a routine as a whole keeps the limits."""
    parameters, instructions = program[index]
    most = 0 if index == len(program) - 1 else MOST_PARAMETERS
    if not 0 <= parameters <= most or not 1 <= len(instructions) <= _MOST_INSTRUCTIONS:
        return False
    return _word(instructions[0]) == "tick"


def _word(instruction):
    return instruction[0] if instruction else ""


# The effects of instructions of two items that go on at the next place, None where the second item is not good.


def _tick(passage, at, many):
    return (0, 0, 0) if 1 <= many <= _MOST_TICKS else None


def _number(passage, at, number):
    return (0, 1, 0) if 0 <= number <= MOST else None


def _truth(passage, at, truth):
    return (0, 1, 0) if truth is True or truth is False else None


def _fact(passage, at, word):
    return (0, 1, 0) if word in FACTS else None


def _load(passage, at, index):
    return (0, 1, 0) if 0 <= index < passage.states[at][1] else None


def _drop(passage, at, many):
    return (0, 0, -many) if 1 <= many <= passage.states[at][1] else None


def _compute(passage, at, sign):
    return (2, 1, 0) if sign in _SIGNS else None


def _list(passage, at, many):
    return (many, 1, 0) if 0 <= many <= MOST_ITEMS else None


def _apply(passage, at, name):
    return (FUNCTIONS[name], 1, 0) if name in FUNCTIONS else None


def _call(passage, at, index):
    return (passage.arities[index], 1, 0) if 0 <= index < len(passage.arities) else None


_MEASURED = {
    "tick": _tick,
    "number": _number,
    "truth": _truth,
    "fact": _fact,
    "load": _load,
    "drop": _drop,
    "compute": _compute,
    "list": _list,
    "apply": _apply,
    "call": _call,
}


# What the other instructions give, None where something about them is not good. The last place of a routine has a
# return, so there is a word behind all others.


def _jump(passage, at, target):
    return [(target, passage.states[at])] if target > at else None


def _branch(passage, at, target):
    """An unless, an and or an or: it needs a value and goes on at two places."""
    height, bindings, loops = passage.states[at]
    if target <= at or height < 1:
        return None
    left = height - 1 if passage.words[at] == "unless" else height
    return [(at + 1, (height - 1, bindings, loops)), (target, (left, bindings, loops))]


def _open(passage, at, word):
    height, bindings, loops = passage.states[at]
    if height < 2 or passage.words[at + 1] != "each":
        return None
    return [(at + 1, (height - 1, bindings, (*loops, at + 1)))]


def _each(passage, at, target):
    height, bindings, loops = passage.states[at]
    if passage.words[at - 1] != "open" or loops[-1:] != (at,):
        return None
    # The tick counts a step for each round, so that no run goes on for ever.
    if target <= at + 1 or passage.words[at + 1] != "tick":
        return None
    return [(at + 1, (height - 1, bindings + 2, loops)), (target, (height, bindings, loops[:-1]))]


def _again(passage, at, head):
    height, bindings, loops = passage.states[at]
    if loops[-1:] != (head,) or passage.states[head] != (height, bindings - 2, loops):
        return None
    return []


def _return(passage, at, word):
    height, _, loops = passage.states[at]
    return [] if height == 1 and loops == () else None


_GIVING = {
    "jump": _jump,
    "unless": _branch,
    "and": _branch,
    "or": _branch,
    "open": _open,
    "each": _each,
    "again": _again,
    "return": _return,
}
