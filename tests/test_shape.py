"""keptcoin/tx/shape.py (7.7)."""

import itertools
import unittest

from keptcoin.errors import (
    BadData, BadDraw, BadFee, BadInterval, BadMint, BadName, BadNumber, BadOutput, BadText, NoSpends, Repeated, TooMany,
)
from keptcoin.tx.output import Output
from keptcoin.tx.params import Params
from keptcoin.tx.shape import check_shape
from tests.helpers import Checks
from tests.ledger import key_output, script_output, some_tx

COIN = ("", 0)
HIGH = 10 ** 9
FAR = 10 ** 39
PARAMS = Params()

# What breaks each rule alone, with the error and its item, in the order of the rules. The fields are different ones,
# so that any two of them can be put together.
BROKEN = [
    (BadNumber, 0, {"number": 0}),
    (TooMany, "looks", {"looks": [(7, at) for at in range(9)]}),
    (NoSpends, None, {"spends": []}),
    (Repeated, (5, 5), {"pledge": [(5, 5), (5, 5)]}),
    (BadName, -1, {"signers": [-1]}),
    (BadText, "", {"mint": [(("", 3), 1)]}),
    (BadOutput, 0, {"makes": [key_output(1, 2)]}),
    (BadMint, ("p", 1), {"mint": [(("p", 1), 10 ** 12 + 1)]}),
    (BadFee, -1, {"fee": -1}),
    (BadInterval, (-1, HIGH), {"begins": -1}),
    (BadData, ("mint", "p"), {"data": [(("mint", "p"), [1] * 9)]}),
    (BadDraw, 4, {"draws": [(4, 0)]}),
]


def refs(many, number=3):
    return [(number, at) for at in range(many)]


class ShapeTest(Checks, unittest.TestCase):
    def good(self, params=PARAMS, **fields):
        self.assertIsNone(check_shape(some_tx(**fields), params))

    def bad(self, error, what, params=PARAMS, **fields):
        self.fails(error, what, check_shape, some_tx(**fields), params)

    def test_of_the_interface(self):
        self.bad(Repeated, (0, 2), number=3, spends=[(0, 2)], fee=-1, looks=[(0, 2)])

    def test_transaction_that_breaks_no_rule(self):
        self.good()
        self.good(number=HIGH, spends=refs(8), looks=refs(8, 4), pledge=refs(4), signers=list(range(8)),
                  makes=[script_output("x" * 400, 10 ** 12, *[(("p", at), 10 ** 12) for at in range(7)],
                                       datum=[10 ** 15] * 8)] * 8,
                  mint=[(("q" * 400, at), -10 ** 12) for at in range(8)], fee=10 ** 12, begins=HIGH, ends=HIGH,
                  data=[(("spend", (3, at)), [-10 ** 15] * 8) for at in range(16)],
                  deeds=[("join", HIGH), ("leave", 0), ("join", 1), ("leave", 2)],
                  draws=[(at, 10 ** 15) for at in range(4)], approved=False)

    def test_number(self):
        for number in (1, 2, HIGH):
            self.good(number=number)
        for number in (0, -1, HIGH + 1, FAR, -FAR):
            self.bad(BadNumber, number, number=number)

    def test_too_many(self):
        outputs = [key_output(1, 9)] * 30
        rows = [(("p", at), 1) for at in range(30)]
        fields = {"spends": (refs(30), 8), "looks": (refs(30), 8), "pledge": (refs(30), 4), "makes": (outputs, 8),
                  "mint": (rows, 8), "signers": (list(range(30)), 8),
                  "data": ([(("mint", str(at)), []) for at in range(30)], 16),
                  "deeds": ([("join", at) for at in range(30)], 4), "draws": ([(at, 1) for at in range(30)], 4)}
        for name, (items, most) in fields.items():
            self.good(**{name: items[:most]})
            for many in (most + 1, most + 2, 30):
                self.bad(TooMany, name, **{name: items[:many]})
        # The first field that has too many is told.
        for one, other in itertools.combinations(fields, 2):
            self.bad(TooMany, one, **{one: fields[one][0], other: fields[other][0]})

    def test_rows_of_mint(self):
        rows = [(("p", at), 1) for at in range(8)]
        self.bad(TooMany, "mint", mint=[*rows, (COIN, 1)])
        self.bad(BadMint, COIN, mint=[*rows[:7], (COIN, 1)])
        self.good(mint=[*rows, (("p", 8), 0), (("p", 0), 1)])

    def test_spends_and_looks_are_counted_each_for_itself(self):
        self.good(spends=refs(8), looks=refs(8, 4))

    def test_no_spends(self):
        self.bad(NoSpends, None, spends=[])
        self.bad(NoSpends, None, spends=[], looks=[(0, 0)], pledge=[(0, 1)])

    def test_repeated_references(self):
        self.bad(Repeated, (0, 1), spends=[(0, 1), (0, 1)])
        self.bad(Repeated, (0, 1), spends=[(0, 2), (0, 1), (0, 3), (0, 1)])
        self.bad(Repeated, (0, 1), spends=[(0, 1)], looks=[(0, 2), (0, 1)])
        self.bad(Repeated, (0, 2), spends=[(0, 1)], looks=[(0, 2), (0, 2)])
        self.bad(Repeated, (0, 1), spends=[(0, 1), (0, 2), (0, 1), (0, 2)])
        self.bad(Repeated, (0, 2), spends=[(0, 1), (0, 2), (0, 2), (0, 1)])
        self.bad(Repeated, (0, 3), pledge=[(0, 3), (0, 4), (0, 3)])
        self.good(spends=[(0, 1), (1, 0)], looks=[(0, 2)], pledge=[(0, 1), (0, 2)])

    def test_repeated_items(self):
        self.bad(Repeated, 5, signers=[4, 5, 6, 5, 4])
        self.bad(Repeated, ("mint", "p"), data=[(("mint", "p"), [1]), (("mint", "q"), []), (("mint", "p"), [])])
        self.bad(Repeated, ("spend", (0, 0)), data=[(("spend", (0, 0)), []), (("spend", (0, 0)), [])])
        self.good(data=[(("spend", (0, 0)), [1]), (("spend", (0, 1)), [1]), (("mint", "p"), [1])])
        self.bad(Repeated, 5, deeds=[("join", 5), ("join", 5)])
        self.bad(Repeated, 5, deeds=[("join", 5), ("leave", 5)])
        self.bad(Repeated, 5, deeds=[("leave", 5), ("join", 6), ("join", 5)])
        self.bad(Repeated, 5, draws=[(5, 1), (5, 2)])
        self.good(signers=[5], deeds=[("join", 5)], draws=[(5, 1)])
        self.good(makes=[key_output(1, 9), key_output(1, 9)])

    def test_order_of_the_lists(self):
        fields = [("looks", [(1, 1), (1, 1)], (1, 1)), ("pledge", [(2, 2), (2, 2)], (2, 2)), ("signers", [3, 3], 3),
                  ("data", [(("mint", "p"), []), (("mint", "p"), [])], ("mint", "p")),
                  ("deeds", [("join", 5), ("join", 5)], 5), ("draws", [(6, 1), (6, 1)], 6)]
        for (one, rows, what), (other, others, _) in itertools.combinations(fields, 2):
            self.bad(Repeated, what, **{one: rows, other: others})

    def test_names_at_each_place(self):
        for name in (-1, HIGH + 1, -FAR, FAR):
            for fields in ({"makes": [key_output(name, 9)]}, {"makes": [key_output(1, 9, (("p", name), 1))]},
                           {"makes": [key_output(1, 9), script_output("x", 9, (("p", name), 1))]},
                           {"mint": [(("p", name), 1)]}, {"signers": [1, name]}, {"deeds": [("join", 1), ("leave", name)]},
                           {"draws": [(1, 5), (name, 5)]}):
                self.bad(BadName, name, **fields)
        for name in (0, HIGH):
            self.good(makes=[key_output(name, 9, (("p", name), 1))], mint=[(("p", name), 1)], signers=[name],
                      deeds=[("join", name)], draws=[(name, 5)])

    def test_order_of_the_names(self):
        asset = [(("p", -3), 1), (("p", -2), 1), (("a", -4), 1)]
        rows = [
            ([-1, -4, -3, -2, -5], {"makes": [Output(("key", -1), asset), key_output(-5, 9)]}),
            ([-6], {"mint": [(("p", -6), 1)]}), ([-7, -8], {"signers": [-7, -8]}),
            ([-9, -10], {"deeds": [("leave", -9), ("join", -10)]}), ([-11, -12], {"draws": [(-11, 1), (-12, 1)]}),
        ]
        for at in range(len(rows)):
            fields = {}
            for _, more in rows[at:]:
                fields.update(more)
            self.bad(BadName, rows[at][0][0], **fields)
        self.bad(BadName, -4, makes=[Output(("key", 1), asset)])
        self.bad(BadName, -4, makes=[Output(("script", "x"), asset), key_output(-5, 9)])
        self.bad(BadName, -5, makes=[key_output(1, 9), key_output(-5, 9), Output(("key", 1), asset)])
        self.bad(BadName, -8, signers=[1, -8, -7])

    def test_keys_in_scripts_and_references_are_no_names(self):
        self.good(spends=[(-5, -7)], looks=[(FAR, -FAR)], pledge=[(-1, -1)], data=[(("spend", (-5, FAR)), [])])

    def test_texts_at_each_place(self):
        for text in ("", "x" * 401, "x" * 999):
            for fields in ({"makes": [script_output(text, 9)]}, {"makes": [key_output(1, 9), script_output(text, 9)]},
                           {"makes": [key_output(1, 9, ((text, 3), 1))]}, {"mint": [((text, 3), 1)]}):
                self.bad(BadText, text, **fields)
        for text in ("x", "no script", "x" * 400):
            self.good(makes=[script_output(text, 9), key_output(1, 9, ((text, 3), 1))], mint=[((text, 3), 1)])

    def test_order_of_the_texts(self):
        a, b, c, d = ["x" * length for length in (404, 401, 402, 403)]
        rows = [((b, 1), 1), ((c, 1), 1), (COIN, 9)]
        self.bad(BadText, a, makes=[Output(("script", a), rows)], mint=[((d, 1), 1)])
        self.bad(BadText, b, makes=[Output(("script", "x"), rows), script_output(a, 9)], mint=[((d, 1), 1)])
        self.bad(BadText, a, makes=[key_output(1, 9), script_output(a, 9)], mint=[((d, 1), 1)])
        self.bad(BadText, d, makes=[key_output(1, 9)], mint=[((d, 1), 1)])
        self.bad(BadText, "", makes=[key_output(1, 9, (("", 1), 1), ((b, 1), 1))])

    def test_coin_is_no_policy(self):
        self.good(makes=[key_output(1, 9)])
        self.bad(BadText, "", makes=[key_output(1, 9, (("", 1), 1))])
        self.bad(BadMint, COIN, mint=[(COIN, 1)])

    def test_policies_in_data_are_not_looked_at(self):
        self.good(data=[(("mint", ""), []), (("mint", "x" * 900), [])])

    def test_rows_of_an_output(self):
        rows = [(("p", at), 1) for at in range(9)]
        self.good(makes=[key_output(1, 10, *rows[:7])])
        self.bad(BadOutput, 0, makes=[key_output(1, 99, *rows[:8])])
        self.bad(BadOutput, 0, makes=[key_output(1, 99, *rows[:9])])

    def test_quantities_of_an_output(self):
        for quantity in (1, 10 ** 12):
            self.good(makes=[key_output(1, 9, (("p", 1), quantity))])
        for quantity in (-1, -FAR, 10 ** 12 + 1, FAR):
            self.bad(BadOutput, 0, makes=[key_output(1, 9, (("p", 1), quantity))])
            self.bad(BadOutput, 1, makes=[key_output(1, 9), key_output(1, 9, (("p", 1), 1), (("q", 1), quantity))])
        self.good(makes=[key_output(1, 10 ** 12)])
        for coin in (10 ** 12 + 1, -1, -9):
            self.bad(BadOutput, 0, makes=[key_output(1, coin)])

    def test_datum_of_an_output(self):
        self.good(makes=[key_output(1, 11, datum=[1] * 8)])
        self.bad(BadOutput, 0, makes=[key_output(1, 99, datum=[1] * 9)])
        for number in (10 ** 15, -10 ** 15):
            self.good(makes=[key_output(1, 9, datum=[number])])
            self.bad(BadOutput, 0, makes=[key_output(1, 9, datum=[number + (1 if number > 0 else -1)])])

    def test_least_coin(self):
        self.good(makes=[key_output(1, 3)])
        self.bad(BadOutput, 0, makes=[key_output(1, 2)])
        self.bad(BadOutput, 0, makes=[Output(("key", 1), [])])
        self.bad(BadOutput, 0, makes=[Output(("key", 1), [(("p", 1), 5)])])
        self.good(makes=[script_output("x", 8, (("p", 1), 5), (("p", 2), 5), datum=[1, 2, 3])])
        self.bad(BadOutput, 0, makes=[script_output("x", 7, (("p", 1), 5), (("p", 2), 5), datum=[1, 2, 3])])
        self.good(Params(coin_base=1000), makes=[key_output(1, 1001)])
        self.bad(BadOutput, 0, Params(coin_base=1000), makes=[key_output(1, 1000)])

    def test_first_bad_output(self):
        good, bad = key_output(1, 9), key_output(1, 1)
        self.bad(BadOutput, 2, makes=[good, good, bad, good, bad])
        self.bad(BadOutput, 7, makes=[*[good] * 7, bad])

    def test_mint(self):
        for quantity in (1, -1, 10 ** 12, -10 ** 12):
            self.good(mint=[(("p", 1), quantity)])
        for quantity in (10 ** 12 + 1, -10 ** 12 - 1, FAR, -FAR):
            self.bad(BadMint, ("p", 1), mint=[(("p", 1), quantity)])
            self.bad(BadMint, ("p", 2), mint=[(("p", 1), 5), (("p", 3), quantity), (("p", 2), quantity)])
        for quantity in (1, -1, FAR):
            self.bad(BadMint, COIN, mint=[(("p", 1), FAR), (COIN, quantity)])

    def test_fee(self):
        for fee in (0, 1, 10 ** 12):
            self.good(fee=fee)
        for fee in (-1, 10 ** 12 + 1, FAR, -FAR):
            self.bad(BadFee, fee, fee=fee)

    def test_interval(self):
        for begins, ends in [(0, 0), (0, HIGH), (HIGH, HIGH), (5, 5), (5, 6)]:
            self.good(begins=begins, ends=ends)
        for begins, ends in [(-1, 5), (6, 5), (0, HIGH + 1), (HIGH + 1, HIGH + 1), (-2, -1), (1, 0), (FAR, FAR), (0, FAR)]:
            self.bad(BadInterval, (begins, ends), begins=begins, ends=ends)

    def test_data(self):
        self.good(data=[(("mint", "p"), [10 ** 15, -10 ** 15] * 4)])
        for datum in ([1] * 9, [10 ** 15 + 1], [1, 2, -10 ** 15 - 1], [1] * 200):
            self.bad(BadData, ("mint", "p"), data=[(("mint", "p"), datum)])
            self.bad(BadData, ("spend", (4, 5)), data=[(("mint", "p"), []), (("spend", (4, 5)), datum), (("mint", "q"), datum)])

    def test_draws(self):
        for amount in (1, 2, 10 ** 15):
            self.good(draws=[(4, amount)])
        for amount in (0, -1, 10 ** 15 + 1, FAR, -FAR):
            self.bad(BadDraw, 4, draws=[(4, amount)])
            self.bad(BadDraw, 5, draws=[(4, 1), (5, amount), (6, amount)])

    def test_each_rule_alone(self):
        for error, what, fields in BROKEN:
            self.bad(error, what, **fields)

    def test_two_broken_rules(self):
        for (error, what, fields), (_, _, others) in itertools.combinations(BROKEN, 2):
            if fields.keys().isdisjoint(others):
                self.bad(error, what, **{**fields, **others})
        both = [(("", 3), 10 ** 12 + 1)]
        self.bad(BadText, "", mint=both)
        self.bad(BadName, -1, mint=[(("", -1), 10 ** 13)])

    def test_all_rules_broken(self):
        fields = {}
        for _, _, more in BROKEN[::-1]:
            fields.update(more)
        for error, what, more in BROKEN:
            self.bad(error, what, **fields)
            fields = {name: fields[name] for name in fields if name not in more}
            if error is BadText:
                fields["mint"] = [(("p", 1), 10 ** 12 + 1)]

    def test_nothing_is_modified(self):
        tx = some_tx(number=5, spends=[(0, 1)], makes=[key_output(1, 9)], signers=[4, 4])
        picture = tx.picture()
        self.fails(Repeated, 4, check_shape, tx, PARAMS)
        self.assertEqual(tx.picture(), picture)
        self.assertEqual(vars(PARAMS), vars(Params()))


if __name__ == "__main__":
    unittest.main()
