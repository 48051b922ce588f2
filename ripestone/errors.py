"""The refusals: one class for each, all under StoneError and none under another one."""


class StoneError(ValueError):
    pass


class NoPlace(StoneError):
    pass


class NoChange(StoneError):
    pass


class Full(StoneError):
    pass


class Twice(StoneError):
    pass


class NoWorth(StoneError):
    pass


class NoKey(StoneError):
    pass


class BadStone(StoneError):
    pass


class NoDeed(StoneError):
    pass


class NoText(StoneError):
    pass


class NoRow(StoneError):
    pass
