"""keptcoin/errors.py, and what and families of errors (0.6)."""

import unittest

from keptcoin import errors

FAMILIES = {
    "ShapeError": "BadNumber TooMany NoSpends Repeated BadName BadText BadOutput BadMint BadFee BadInterval BadData"
                  " BadDraw",
    "StateError": "Present Absent NoPot NoMark",
    "RuleError": "Reused OutsideInterval UnknownOutput NotSigned NotJoined TooMuch AlreadyJoined RewardLeft BadLock"
                 " MissingData NeedlessData TooCostly FeeTooLow NeedlessPledge BadPledge PledgeTooSmall Unbalanced"
                 " WrongClaim",
    "ChainError": "BadBlockNumber KnownBlock BarredBlock UnknownParent TooManyTransactions TooDeep BadBlock BadSlot",
    "PoolError": "AlreadyPending PoolFull",
    "RecordError": "BadNotation BadRecord BadLine",
    "WalletError": "NotEnough NoPledge ScriptsRefuse",
    "ScriptError": "BadToken BadSyntax OverLimit BadUse DeepTerm NoKind BadFacts BadCode",
}


class ErrorsTest(unittest.TestCase):
    def test_base(self):
        self.assertEqual(errors.KeptError.__bases__, (ValueError,))

    def test_families(self):
        for family, names in FAMILIES.items():
            self.assertEqual(getattr(errors, family).__bases__, (errors.KeptError,))
            for name in names.split():
                self.assertEqual(getattr(errors, name).__bases__, (getattr(errors, family),), name)

    def test_nothing_else(self):
        listed = {"KeptError", *FAMILIES, *" ".join(FAMILIES.values()).split()}
        found = {name for name, value in vars(errors).items() if isinstance(value, type)}
        self.assertEqual(found, listed)

    def test_what(self):
        for name in ["KeptError", *FAMILIES, *" ".join(FAMILIES.values()).split()]:
            error = getattr(errors, name)
            self.assertIsNone(error().what)
            self.assertEqual(error(7).what, 7)
            self.assertEqual(error(what=("a", 1)).what, ("a", 1))
            self.assertEqual(vars(error(7)), {"what": 7})


if __name__ == "__main__":
    unittest.main()
