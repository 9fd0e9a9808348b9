"""The machine, which runs the programs that the checker accepts."""

from keptcoin.scripts.endings import Ended, value_in
from keptcoin.scripts.functions import call_function, compute, fact_value
from keptcoin.scripts.kinds import BOOL, INT
from keptcoin.scripts.meaning import BUDGET
from keptcoin.scripts.signatures import FUNCTION_SIGNATURES

_ANY = ("any", 0)


class Frame:
    """A routine that is under way."""

    def __init__(self, instructions, bindings):
        self.instructions = instructions
        # The place of the next instruction.
        self.at = 0
        # The latest one stands last.
        self.bindings = bindings
        # The items that are left for each open loop, the next one last.
        self.loops = []


class Machine:
    """A run that is under way. The last frame is that of the latest call."""

    def __init__(self, program, facts, budget):
        self.program = program
        self.facts = facts
        self.budget = budget
        self.steps = 0
        self.notes = []
        self.stack = []
        self.frames = [Frame(program[-1][1], [])]

    def perform(self):
        """Does one instruction."""
        frame = self.frames[-1]
        instruction = frame.instructions[frame.at]
        frame.at += 1
        action = _ACTIONS[instruction[0]]
        # For an instruction that is a word alone this is the word, which its action does not look at.
        action(self, frame, instruction[-1])

    def pull(self, kinds):
        """Takes a value of each of these kinds off the stack, the last one from the top."""
        start = len(self.stack) - len(kinds)
        values = self.stack[start:]
        for value, kind in zip(values, kinds):
            _require(value, kind)
        del self.stack[start:]
        return values


def run_program(program, facts, *, budget=BUDGET):
    """The outcome (ending, value, notes, steps) of a run of the program."""
    machine = Machine(program, facts, budget)
    try:
        while machine.frames:
            machine.perform()
    except Ended as e:
        return (e.ending, None, tuple(machine.notes), machine.steps)
    return ("value", machine.stack.pop(), tuple(machine.notes), machine.steps)


def _require(value, kind):
    """Ends the run if the value is not of the kind. What stands in pairs and lists is not looked at."""
    if kind == INT:
        good = isinstance(value, int) and not isinstance(value, bool)
    elif kind == BOOL:
        good = isinstance(value, bool)
    else:
        good = kind[0] == "any" or isinstance(value, tuple) and value[0] == kind[0]
    if not good:
        raise Ended("stuck")


def _tick(machine, frame, many):
    if machine.steps + many > machine.budget:
        machine.steps = machine.budget
        raise Ended("tired")
    machine.steps += many


def _constant(machine, frame, value):
    machine.stack.append(value)


def _fact(machine, frame, word):
    machine.stack.append(value_in(fact_value(word, machine.facts)))


def _fail(machine, frame, word):
    raise Ended("fail")


def _load(machine, frame, index):
    machine.stack.append(frame.bindings[-1 - index])


def _bind(machine, frame, word):
    frame.bindings.append(machine.stack.pop())


def _drop(machine, frame, many):
    del frame.bindings[len(frame.bindings) - many:]


def _minus(machine, frame, word):
    values = machine.pull((INT,))
    machine.stack.append(-values[0])


def _not(machine, frame, word):
    values = machine.pull((BOOL,))
    machine.stack.append(not values[0])


def _note(machine, frame, word):
    machine.notes.extend(machine.pull((INT,)))


def _compute(machine, frame, sign):
    values = machine.pull((INT, INT))
    machine.stack.append(value_in(compute(sign, values[0], values[1])))


def _pair(machine, frame, word):
    values = machine.pull((_ANY, _ANY))
    machine.stack.append(("pair", values[0], values[1]))


def _list(machine, frame, many):
    machine.stack.append(("list", tuple(machine.pull((INT,) * many))))


def _apply(machine, frame, name):
    kinds, _ = FUNCTION_SIGNATURES[name]
    values = machine.pull(kinds)
    machine.stack.append(value_in(call_function(name, values, machine.facts)))


def _call(machine, frame, index):
    parameters, instructions = machine.program[index]
    machine.frames.append(Frame(instructions, machine.pull((_ANY,) * parameters)))


def _return(machine, frame, word):
    machine.frames.pop()


def _jump(machine, frame, target):
    frame.at = target


def _unless(machine, frame, target):
    values = machine.pull((BOOL,))
    if not values[0]:
        frame.at = target


def _and(machine, frame, target):
    _require(machine.stack[-1], BOOL)
    if machine.stack[-1]:
        machine.stack.pop()
    else:
        frame.at = target


def _or(machine, frame, target):
    _require(machine.stack[-1], BOOL)
    if machine.stack[-1]:
        frame.at = target
    else:
        machine.stack.pop()


def _open(machine, frame, word):
    _require(machine.stack[-2], ("list", _ANY))
    items = machine.stack.pop(-2)
    frame.loops.append(list(items[1])[::-1])


def _each(machine, frame, target):
    if frame.loops[-1]:
        frame.bindings.append(frame.loops[-1].pop())
        frame.bindings.append(machine.stack.pop())
    else:
        frame.loops.pop()
        frame.at = target


def _again(machine, frame, head):
    del frame.bindings[-2:]
    frame.at = head


_ACTIONS = {
    "tick": _tick,
    "number": _constant,
    "truth": _constant,
    "fact": _fact,
    "fail": _fail,
    "load": _load,
    "bind": _bind,
    "drop": _drop,
    "minus": _minus,
    "not": _not,
    "note": _note,
    "compute": _compute,
    "pair": _pair,
    "list": _list,
    "apply": _apply,
    "call": _call,
    "return": _return,
    "jump": _jump,
    "unless": _unless,
    "and": _and,
    "or": _or,
    "open": _open,
    "each": _each,
    "again": _again,
}
