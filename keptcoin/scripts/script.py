"""Scripts that are made of texts: read, with their kind and their code."""

from keptcoin.errors import ScriptError
from keptcoin.scripts.bounds import step_bound
from keptcoin.scripts.emitting import emit_script
from keptcoin.scripts.inference import infer_script
from keptcoin.scripts.kinds import BOOL
from keptcoin.scripts.machine import run_program
from keptcoin.scripts.meaning import evaluate, verdict_of
from keptcoin.scripts.reader import read_script
from keptcoin.scripts.simplify import simplify_script


class Script:
    """A script that was made of a text."""

    def __init__(self, text):
        self.text = text
        self.source = read_script(text)
        _, self.kind = infer_script(self.source)
        self.code = emit_script(simplify_script(self.source))

    @property
    def is_validator(self):
        """True if the script tells whether it permits something."""
        return self.kind == BOOL

    def bound(self, many=8):
        """The bound of the script that was read."""
        return step_bound(self.source, many)

    def verdict(self, facts):
        """The verdict of the machine on the facts."""
        return verdict_of(run_program(self.code, facts, budget=self.bound(facts.many)))

    def plain_verdict(self, facts):
        """The verdict of the evaluation of the script as it was read."""
        return verdict_of(evaluate(self.source, facts, budget=self.bound(facts.many)))


def is_validator_text(text):
    """True if the text is that of a script that tells whether it permits something."""
    try:
        script = Script(text)
    except ScriptError:
        return False
    return script.is_validator
