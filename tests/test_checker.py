"""keptcoin/scripts/checker.py (6.3, 6.4, and the first half of 6.7)."""

import random
import unittest

from keptcoin.errors import BadCode
from keptcoin.scripts.checker import check_program
from keptcoin.scripts.emitting import emit_script
from keptcoin.scripts.reader import read_script
from keptcoin.scripts.simplify import simplify_script
from keptcoin.scripts.terms import FACTS, FUNCTIONS
from tests.helpers import Checks
from tests.making import complicated, kinded_script

TICK, RETURN, ONE, OPEN, BIND = ("tick", 1), ("return",), ("number", 1), ("open",), ("bind",)
MOST = 10 ** 15
LAST = (0, (TICK, ONE, RETURN))


def routine(*instructions, parameters=0):
    """A routine that begins with a tick and ends with a return."""
    return (parameters, (TICK, *instructions, RETURN))


def bound_to(height, instruction, left):
    """Instructions of which one finds so many values; as many as it leaves are brought to one."""
    behind = [ONE] if left == 0 else [BIND] * (left - 1)
    return [ONE] * height + [instruction] + behind


class CheckerTest(Checks, unittest.TestCase):
    def good(self, *instructions, parameters=None):
        if parameters is None:
            self.assertIsNone(check_program((routine(*instructions),)), instructions)
        else:
            self.assertIsNone(check_program((routine(*instructions, parameters=parameters), LAST)), instructions)

    def bad(self, place, *instructions, parameters=None):
        if parameters is None:
            self.fails(BadCode, (0, place), check_program, (routine(*instructions),))
        else:
            self.fails(BadCode, (0, place), check_program, (routine(*instructions, parameters=parameters), LAST))

    def needs(self, height, instruction, left, parameters=None):
        """The instruction takes so many values at least, and then leaves so many."""
        self.good(*bound_to(height, instruction, left), parameters=parameters)
        self.good(*bound_to(height + 1, instruction, left + 1), parameters=parameters)
        if height > 0:
            self.bad(height, *bound_to(height - 1, instruction, left), parameters=parameters)

    def test_programs(self):
        self.fails(BadCode, (0, 0), check_program, ())
        for many in range(1, 8):
            self.assertIsNone(check_program((LAST,) * many))
        for many in (8, 9, 200):
            self.fails(BadCode, (7, 0), check_program, (LAST,) * many)

    def test_too_many_routines_come_before_bad_ones(self):
        self.fails(BadCode, (7, 0), check_program, ((9, ()),) * 8)
        self.fails(BadCode, (0, 0), check_program, ((9, ()),) * 7)

    def test_parameters(self):
        for many in range(5):
            self.assertIsNone(check_program(((many, (TICK, ONE, RETURN)), LAST)))
        for many in (-1, 5, 6):
            self.fails(BadCode, (0, 0), check_program, ((many, (TICK, ONE, RETURN)), LAST))
        for many in (-1, 1, 4, 5):
            self.fails(BadCode, (0, 0), check_program, ((many, (TICK, ONE, RETURN)),))
            self.fails(BadCode, (1, 0), check_program, (LAST, (many, (TICK, ONE, RETURN))))

    def test_numbers_of_instructions(self):
        self.fails(BadCode, (0, 0), check_program, ((0, ()),))
        self.fails(BadCode, (1, 0), check_program, (LAST, (0, ())))
        self.fails(BadCode, (0, 0), check_program, ((0, (TICK,)),))
        self.fails(BadCode, (0, 1), check_program, ((0, (TICK, RETURN)),))
        self.assertIsNone(check_program(((0, (TICK,) * 9998 + (ONE, RETURN)),)))
        self.fails(BadCode, (0, 0), check_program, ((0, (TICK,) * 9999 + (ONE, RETURN)),))
        self.fails(BadCode, (0, 0), check_program, ((0, (TICK,) * 19998 + (ONE, RETURN)),))
        self.fails(BadCode, (0, 9999), check_program, ((0, (TICK,) * 10000),))
        self.fails(BadCode, (0, 0), check_program, ((0, (TICK,) * 10001),))

    def test_first_instruction(self):
        self.fails(BadCode, (0, 0), check_program, ((0, (ONE, RETURN)),))
        self.fails(BadCode, (1, 0), check_program, (LAST, (0, (ONE, TICK, RETURN))))
        self.fails(BadCode, (0, 0), check_program, ((0, (RETURN,)),))
        self.fails(BadCode, (0, 0), check_program, ((0, (("tick",), ONE, RETURN)),))
        self.fails(BadCode, (0, 0), check_program, ((0, (("tick", 0), ONE, RETURN)),))

    def test_tick(self):
        for many in (1, 2, 10 ** 6):
            self.good(("tick", many), ONE)
        for many in (0, -1, 10 ** 6 + 1, 10 ** 40 - 1):
            self.bad(1, ("tick", many), ONE)
        self.needs(0, ("tick", 1), 0)

    def test_number(self):
        for number in (0, 1, MOST):
            self.good(("number", number))
        for number in (-1, MOST + 1, -MOST):
            self.bad(1, ("number", number))
        self.needs(0, ("number", 5), 1)

    def test_truth_fact_fail(self):
        self.needs(0, ("truth", True), 1)
        self.needs(0, ("truth", False), 1)
        for word in FACTS:
            self.needs(0, ("fact", word), 1)
        for word in ("first", "x", "", "fail", "Here"):
            self.bad(1, ("fact", word))
        for truth in (1, 0, None):
            self.bad(1, ("truth", truth))
        self.needs(0, ("fail",), 1)

    def test_load(self):
        for many in range(1, 5):
            self.good(("load", many - 1), parameters=many)
            self.good(("load", 0), parameters=many)
            self.bad(1, ("load", many), parameters=many)
            self.bad(1, ("load", -1), parameters=many)
            self.needs(0, ("load", many - 1), 1, parameters=many)
        self.bad(1, ("load", 0))
        self.good(ONE, BIND, ("load", 0))
        self.bad(3, ONE, BIND, ("load", 1))
        self.good(ONE, BIND, ("load", 4), parameters=4)
        self.bad(3, ONE, BIND, ("load", 5), parameters=4)

    def test_bind_and_drop(self):
        self.needs(1, BIND, 0)
        self.good(ONE, BIND, ("drop", 1), ONE)
        self.bad(4, ONE, BIND, ("drop", 1), ("load", 0))
        self.good(("drop", 2), ("load", 1), parameters=4)
        self.bad(2, ("drop", 2), ("load", 2), parameters=4)
        self.good(("drop", 4), ONE, parameters=4)
        for many in (0, -1, 5):
            self.bad(1, ("drop", many), ONE, parameters=4)
        self.bad(1, ("drop", 1), ONE)
        self.needs(0, ("drop", 1), 0, parameters=1)

    def test_minus_not_note(self):
        self.needs(1, ("minus",), 1)
        self.needs(1, ("not",), 1)
        self.needs(1, ("note",), 0)

    def test_compute_and_pair(self):
        for sign in "+ - * div mod == < <=".split():
            self.needs(2, ("compute", sign), 1)
        for sign in ("and", "or", "not", "", ">", "=", "/"):
            self.bad(3, ONE, ONE, ("compute", sign))
        self.needs(2, ("pair",), 1)

    def test_list(self):
        for many in range(9):
            self.needs(many, ("list", many), 1)
        self.bad(1, ("list", -1))
        self.bad(10, *[ONE] * 9, ("list", 9))

    def test_apply(self):
        for name, many in FUNCTIONS.items():
            self.needs(many, ("apply", name), 1)
        for name in ("f", "", "here", "+"):
            self.bad(3, ONE, ONE, ("apply", name), BIND)

    def test_call(self):
        for many in range(5):
            callee = (many, (TICK, ONE, RETURN))
            self.assertIsNone(check_program((callee, routine(*bound_to(many, ("call", 0), 1)))))
            self.assertIsNone(check_program((callee, routine(*bound_to(many + 1, ("call", 0), 2)))))
            if many:
                program = (callee, routine(*bound_to(many - 1, ("call", 0), 1)))
                self.fails(BadCode, (1, many), check_program, program)

    def test_call_of_earlier_routines_alone(self):
        for index, called, good in [(0, 0, False), (0, 1, False), (0, -1, False), (1, 0, True), (1, 1, False),
                                    (1, 2, False), (1, -1, False), (6, 5, True), (6, 0, True), (6, 6, False),
                                    (6, 7, False)]:
            program = [LAST] * index + [routine(("call", called))]
            for more in range(7 - len(program)):
                whole = tuple(program + [LAST] * more)
                if good:
                    self.assertIsNone(check_program(whole))
                else:
                    self.fails(BadCode, (index, 1), check_program, whole)

    def test_parameters_of_the_called_routine(self):
        program = ((3, (TICK, ONE, RETURN)), (1, (TICK, ONE, RETURN)), (0, (TICK, ONE, RETURN)))
        for called, many in [(0, 3), (1, 1), (2, 0)]:
            self.assertIsNone(check_program((*program, routine(*[ONE] * many, ("call", called)))))
            self.fails(BadCode, (3, 3 + many), check_program, (*program, routine(*[ONE] * (many + 1), ("call", called))))

    def test_jump(self):
        self.good(("jump", 2), ONE)
        # No state reaches the place that is jumped over.
        self.bad(2, ("jump", 3), TICK, ONE)
        for target in (1, 0, -1):
            self.bad(1, ("jump", target), ONE)
        self.bad(1, ("jump", 4), ONE)
        self.bad(1, ("jump", 10 ** 9), ONE)
        self.good(ONE, ("jump", 3))
        self.bad(2, ONE, ("jump", 4))

    def test_next_gets_nothing_from_a_jump(self):
        # The place behind the jump has a state only from the unless.
        self.good(("truth", True), ("unless", 5), ONE, ("jump", 6), ("number", 2))
        self.bad(4, ("truth", True), ("unless", 6), ("jump", 6), ("number", 2), ("number", 3))

    def test_unless(self):
        self.good(ONE, ONE, ("unless", 4))
        self.good(ONE, ONE, ("unless", 5), TICK)
        self.bad(1, ("unless", 2), ONE)
        self.bad(2, ONE, ("unless", 2), ONE)
        self.bad(2, ONE, ("unless", 1), ONE)
        self.bad(2, ONE, ("unless", -1), ONE)
        self.good(ONE, ("unless", 3), ONE)
        self.bad(2, ONE, ("unless", 5), ONE)
        self.bad(3, ONE, ("unless", 4), ONE)

    def test_and_or(self):
        for word in ("and", "or"):
            self.good(ONE, (word, 4), ONE)
            self.bad(1, (word, 3), ONE)
            for target in (2, 1, 0, -1):
                self.bad(2, ONE, (word, target), ONE)
            self.bad(2, ONE, (word, 5), ONE)
            self.bad(2, ONE, (word, 3), ONE)
            self.good(ONE, (word, 5), ONE, TICK)
            self.bad(4, ONE, (word, 5), ONE, ONE)

    def test_loop(self):
        self.good(("list", 0), ONE, OPEN, ("each", 8), TICK, ("load", 0), ("again", 4))
        self.good(("list", 0), ONE, OPEN, ("each", 9), TICK, ("load", 1), TICK, ("again", 4))
        self.good(ONE, ("list", 0), ONE, OPEN, ("each", 9), TICK, ("load", 0), ("again", 5), BIND)

    def loop(self, *inner, target=None):
        """A loop whose each stands at place 4; behind it stands nothing but the return."""
        target = 5 + len(inner) if target is None else target
        return [("list", 0), ONE, OPEN, ("each", target), *inner]

    def test_open(self):
        self.bad(2, ("list", 0), OPEN, ("each", 6), TICK, ("load", 0), ("again", 3))
        self.bad(3, ("list", 0), ONE, OPEN)
        self.bad(3, ("list", 0), ONE, OPEN, TICK)
        self.bad(4, ("list", 0), ONE, OPEN, ("each",), BIND)
        self.bad(3, ("list", 0), ONE, OPEN, BIND, ONE)

    def test_each(self):
        self.good(*self.loop(TICK, ("load", 0), ("again", 4)))
        self.bad(4, *self.loop(("load", 0), TICK, ("again", 4)))
        self.bad(4, *self.loop(TICK, ("load", 0), ("again", 4), target=5))
        for target in (4, 3, 0, -1, 9, 10 ** 6):
            self.bad(4, *self.loop(TICK, ("load", 0), ("again", 4), target=target))
        self.bad(5, *self.loop(TICK, ("load", 0), ("again", 4), target=6))
        self.bad(1, ("each", 3), TICK, ONE)
        self.bad(3, ("list", 0), ONE, ("each", 7), TICK, ("load", 0), ("again", 3))

    def test_each_may_end_far_behind(self):
        # The place that the loop goes on at has a state, the one behind the again has none.
        self.bad(8, *self.loop(TICK, ("load", 0), ("again", 4), target=9), TICK)
        self.good(*self.loop(TICK, ("load", 0), ("unless", 10), ("number", 2), ("again", 4), ("number", 3), ("again", 4)))

    def test_each_gives_two_bindings_inside_alone(self):
        self.good(*self.loop(TICK, ("load", 1), ("again", 4)))
        self.bad(6, *self.loop(TICK, ("load", 2), ("again", 4)))
        self.bad(8, *self.loop(TICK, ("load", 1), ("again", 4), target=8), ("load", 0))

    def test_again(self):
        self.bad(7, *self.loop(TICK, ("load", 0), ("again", 3)))
        self.bad(7, *self.loop(TICK, ("load", 0), ("again", 5)))
        self.bad(6, *self.loop(TICK, ("again", 4)))
        self.bad(8, *self.loop(TICK, ("load", 0), ("load", 0), ("again", 4)))
        self.bad(8, *self.loop(TICK, ("load", 0), BIND, ("again", 4)))
        self.bad(8, *self.loop(TICK, ("load", 0), ("drop", 1), ("again", 4)))
        self.good(*self.loop(TICK, ("load", 0), ("drop", 2), ONE, BIND, ONE, BIND, ("again", 4)))
        self.bad(1, ("again", 1), ONE)
        self.bad(2, ONE, ("again", 0))
        self.bad(8, *self.loop(TICK, ("load", 0), ("again", 4), ("again", 4), target=8))

    def test_nested_loops(self):
        inner = [("fact", "spent"), ONE, OPEN, ("each", 13), TICK, ("load", 0), ("again", 9)]
        self.good(*self.loop(TICK, *inner, ("again", 4)))
        self.bad(13, *self.loop(TICK, *inner, ("again", 9)))
        self.good(*self.loop(TICK, *inner, BIND, ("load", 0), ("drop", 1), ("again", 4)))

    def test_again_of_the_outer_loop(self):
        inner = [("fact", "spent"), ONE, OPEN, ("each", 13), TICK, ("load", 0), ("again", 4)]
        self.bad(12, *self.loop(TICK, *inner, ("again", 4)))

    def test_jumps_out_of_a_loop(self):
        # The return would find the loop open, and has a state without it already.
        self.bad(7, *self.loop(TICK, ("load", 0), ("jump", 8)))

    def test_jumps_within_a_loop(self):
        self.good(*self.loop(TICK, ("load", 0), ("unless", 10), ONE, ("jump", 11), ONE, ("again", 4)))

    def test_return(self):
        self.bad(1)
        self.bad(3, ONE, ONE)
        self.bad(2, ONE, RETURN)
        self.fails(BadCode, (0, 2), check_program, ((0, (TICK, ONE, RETURN, TICK, RETURN)),))
        self.fails(BadCode, (0, 1), check_program, ((0, (TICK, ONE)),))
        self.fails(BadCode, (0, 2), check_program, ((0, (TICK, ONE, TICK)),))
        self.good(ONE, BIND, ONE)

    def test_loops_that_stay_open(self):
        self.bad(4, *self.loop(TICK, ("load", 0), target=8))
        self.bad(7, *self.loop(TICK, ("load", 0), TICK))
        # The return has the state with the open loop first, and the end of the loop gives it another one.
        self.bad(8, *self.loop(TICK, ("load", 0), ("jump", 9), TICK, target=8))

    def test_place_without_a_state(self):
        self.bad(2, ("jump", 3), ONE, ONE)
        self.bad(5, ("truth", True), ("unless", 4), ("jump", 6), ("jump", 6), ONE, ONE)

    def test_place_with_two_states(self):
        self.bad(3, ("truth", True), ("unless", 4), ONE, ("number", 2))
        self.good(("truth", True), ("unless", 5), ONE, ("jump", 6), ("number", 2))
        # Bindings count, too.
        self.bad(4, ("truth", True), ("unless", 5), ONE, BIND, ONE)
        self.good(("truth", True), ("unless", 6), ONE, BIND, ("drop", 1), ONE)
        # Two jumps to one place.
        self.bad(5, ("truth", True), ("unless", 5), ONE, ("jump", 7), ("jump", 7), ONE, ONE)

    def test_words_and_lengths(self):
        for instruction in [("tick",), ("tick", 1, 1), ("number",), ("number", 1, 2), ("truth",), ("truth", True, True),
                            ("fact",), ("fact", "here", 1), ("fail", 1), ("load",), ("load", 0, 0), ("bind", 1),
                            ("drop",), ("drop", 1, 1), ("minus", 1), ("not", True), ("note", 1), ("compute",),
                            ("compute", "+", "-"), ("pair", 1), ("list",), ("list", 0, 0), ("apply",),
                            ("apply", "count", 1), ("call",), ("call", 0, 0), ("jump",), ("jump", 5, 5), ("unless",),
                            ("unless", 5, 5), ("and",), ("and", 5, 5), ("or",), ("or", 5, 5), ("open", 4), ("each",),
                            ("each", 6, 6), ("again",), ("again", 1, 1), ("return",), ("return", 1), (), ("",), ("gap",),
                            ("variable", "x"), ("binary", "+"), ("let",), ("+",), ("Tick", 1)]:
            program = (LAST, routine(ONE, BIND, ONE, instruction, TICK, TICK, TICK))
            self.fails(BadCode, (1, 4), check_program, program)
        for instruction in [("return", 1), ("return", None), (), ("back",)]:
            self.fails(BadCode, (0, 2), check_program, ((0, (TICK, ONE, instruction)),))

    def test_first_fault_is_told(self):
        self.bad(2, ONE, ("number", -1), ("number", -1))
        bad = routine(("number", -1))
        self.fails(BadCode, (0, 1), check_program, (bad, bad, LAST))
        self.fails(BadCode, (1, 1), check_program, (LAST, bad, bad))
        # A bad routine comes behind the places of the one before it.
        self.fails(BadCode, (0, 1), check_program, (bad, (9, ()), LAST))
        self.fails(BadCode, (0, 0), check_program, ((9, ()), bad, LAST))
        self.fails(BadCode, (1, 0), check_program, (LAST, (9, (TICK, ("number", -1), RETURN)), LAST))
        self.fails(BadCode, (0, 2), check_program, (routine(ONE, ("call", 0)), (9, ()), LAST))

    def test_code_of_scripts(self):
        for text in ("1", "true and false or true", "def f(a, b, c, d) = [a, b, c, d]; f(1, 2, 3, 4)",
                     "fold x s in spent from 0 do fold y t in made from s do if coin(x) < 5 then t else t + 1",
                     "let x = fold a b in [1] from 2 do let c = a in b + c in if x == 1 or x == 2 then x else note x then 3",
                     "def f() = fail; def g(x) = (f(), x); second(g([]))"):
            script = read_script(text)
            self.assertIsNone(check_program(emit_script(script)))
            self.assertIsNone(check_program(emit_script(simplify_script(script))))

    def test_code_of_made_up_scripts(self):
        source = random.Random(14)
        for _ in range(600):
            script, _ = kinded_script(source, source.randint(1, 6))
            script = complicated(source, script)
            self.assertIsNone(check_program(emit_script(script)))
            self.assertIsNone(check_program(emit_script(simplify_script(script))))

    def test_large_programs(self):
        many = 1600
        opens = []
        for depth in range(many):
            opens += [("list", 0), ONE, OPEN, ("each", 0), TICK]
        closes = [("again", 4 + 5 * depth) for depth in range(many)[::-1]]
        code = [TICK, *opens, ONE, *closes, RETURN]
        for at, instruction in enumerate(code):
            if instruction[0] == "again":
                code[instruction[1]] = ("each", at + 1)
        self.assertEqual(len(code), 9603)
        self.assertIsNone(check_program(((0, tuple(code)),)))

    def test_nothing_is_modified(self):
        program = emit_script(read_script("def f(x) = x + 1; fold x s in [1, 2] from 0 do f(x) + s"))
        copy = emit_script(read_script("def f(x) = x + 1; fold x s in [1, 2] from 0 do f(x) + s"))
        check_program(program)
        self.assertEqual(program, copy)


if __name__ == "__main__":
    unittest.main()
