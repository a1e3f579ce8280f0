"""The refusals: one class for each, all under RuleError."""


class RuleError(ValueError):
    pass


class NoPrime(RuleError):
    pass


class NoRow(RuleError):
    pass


class NoRule(RuleError):
    pass


class NoPlace(RuleError):
    pass


class TooLarge(RuleError):
    pass


class NoTurn(RuleError):
    pass


class NoNote(RuleError):
    pass
