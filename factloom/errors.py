"""The refusals of the program, one class for each."""


class LoomError(ValueError):
    """Any refusal."""


class BadHead(LoomError):
    """The head of a rule is a guard."""


class BadGuard(LoomError):
    """A guard has more or fewer than two parts."""


class LooseBlank(LoomError):
    """A blank of a guard or of a head stands in no asker of the body."""


class NotTold(LoomError):
    """Grounds are asked for a fact that is not told."""


class NoRule(LoomError):
    """No rule is written as the line."""
