"""All errors that the program raises. Behind the colon stands what `what` is."""


class KeptError(ValueError):
    """The base class of all errors; what is the item that the broken rule names, or None."""

    def __init__(self, what=None):
        self.what = what


class ShapeError(KeptError):
    """The shape of a transaction is bad."""


class StateError(KeptError):
    """A change does not fit the state."""


class RuleError(KeptError):
    """A transaction breaks a rule of the ledger."""


class ChainError(KeptError):
    """A block does not fit the chain."""


class PoolError(KeptError):
    """A transaction cannot wait in the pool."""


class RecordError(KeptError):
    """A text or a value is no record."""


class WalletError(KeptError):
    """The wallet cannot build a transaction."""


class ScriptError(KeptError):
    """A script, its facts or its code is bad."""


class BadNumber(ShapeError):
    """The number of a transaction is out of range: the number."""


class TooMany(ShapeError):
    """A field has too many items: the name of the field."""


class NoSpends(ShapeError):
    """A transaction spends nothing: None."""


class Repeated(ShapeError):
    """An item equals an earlier one: the item."""


class BadName(ShapeError):
    """A key or the name of an asset is out of range: the integer."""


class BadText(ShapeError):
    """A script text or a policy is empty or too long: the text."""


class BadOutput(ShapeError):
    """An output breaks a limit: its index."""


class BadMint(ShapeError):
    """A minted or burned quantity breaks a limit: the asset."""


class BadFee(ShapeError):
    """A fee is out of range: the fee."""


class BadInterval(ShapeError):
    """An interval is out of range or ends before it begins: the pair of its ends."""


class BadData(ShapeError):
    """A datum that belongs to a purpose breaks a limit: the purpose."""


class BadDraw(ShapeError):
    """The amount of a draw is out of range: the key."""


class Present(StateError):
    """Something is there already: the reference or the number."""


class Absent(StateError):
    """An output is not unspent: the reference."""


class NoPot(StateError):
    """There is no pot of this name: the name."""


class NoMark(StateError):
    """A mark cannot be gone back to: the mark."""


class Reused(RuleError):
    """The number of a transaction is used: the number."""


class OutsideInterval(RuleError):
    """A transaction may not stand in the slot: the slot."""


class UnknownOutput(RuleError):
    """An output is not unspent: the reference."""


class NotSigned(RuleError):
    """A key is not one of the signers: the key."""


class NotJoined(RuleError):
    """A key has no account: the key."""


class TooMuch(RuleError):
    """A draw is greater than the reward: the key."""


class AlreadyJoined(RuleError):
    """A key has an account already: the key."""


class RewardLeft(RuleError):
    """A key leaves and does not draw just its reward: the key."""


class BadLock(RuleError):
    """A text is not that of a validator: the text."""


class MissingData(RuleError):
    """A purpose has no datum: the purpose."""


class NeedlessData(RuleError):
    """A datum belongs to no purpose of the transaction: the purpose."""


class TooCostly(RuleError):
    """The scripts may take too many steps: the steps."""


class FeeTooLow(RuleError):
    """A fee is below the least fee: the least fee."""


class NeedlessPledge(RuleError):
    """A transaction without purposes has a pledge: None."""


class BadPledge(RuleError):
    """A pledged output has a script address or other assets: the reference."""


class PledgeTooSmall(RuleError):
    """The pledged coin does not suffice: the coin."""


class Unbalanced(RuleError):
    """A transaction does not balance: the rows of the difference."""


class WrongClaim(RuleError):
    """The claim about the scripts is wrong: the pairs of purpose and verdict."""


class BadBlockNumber(ChainError):
    """The number of a block is out of range: the number."""


class KnownBlock(ChainError):
    """A known block has the number: the number."""


class BarredBlock(ChainError):
    """The number is barred: the number."""


class UnknownParent(ChainError):
    """No known block has the number: the number."""


class TooManyTransactions(ChainError):
    """A block has too many transactions: the number of the block."""


class TooDeep(ChainError):
    """A block leaves the current branch too deep: the parent."""


class BadBlock(ChainError):
    """A transaction of a block is refused: the pair of the block's number and its index."""


class BadSlot(ChainError):
    """A slot is too early or too late: the slot."""


class AlreadyPending(PoolError):
    """A waiting transaction has the number: the number."""


class PoolFull(PoolError):
    """As many transactions wait as may: None."""


class BadNotation(RecordError):
    """A text is no notation: the place."""


class BadRecord(RecordError):
    """A value is no picture, or a line is no call: None."""


class BadLine(RecordError):
    """A whole line of a journal is not good: its index."""


class NotEnough(WalletError):
    """No candidate balances: None."""


class NoPledge(WalletError):
    """The outputs do not suffice for a pledge: None."""


class ScriptsRefuse(WalletError):
    """A script does not approve: the pairs of purpose and verdict."""


class BadToken(ScriptError):
    """No good token begins here: the place."""


class BadSyntax(ScriptError):
    """A token cannot stand here, or the text ends too early: the place."""


class OverLimit(ScriptError):
    """A token is one too many: the place."""


class BadUse(ScriptError):
    """A name is used wrongly: the name."""


class DeepTerm(ScriptError):
    """A term is too deep: the depth."""


class NoKind(ScriptError):
    """A definition or the body has no kind: its index; None where kinds have no solution."""


class BadFacts(ScriptError):
    """A field of the facts breaks a limit: the name of the field."""


class BadCode(ScriptError):
    """A program breaks a rule of the checker: the pair of routine and place."""
