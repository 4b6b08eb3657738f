"""The refusals: one class for each, all straight under RimError."""


class RimError(ValueError):
    pass


class NoWorth(RimError):
    pass


class NoAnswer(RimError):
    pass


class NoNet(RimError):
    pass


class Loose(RimError):
    pass


class NoPlane(RimError):
    pass


class TooMany(RimError):
    pass


class NoStep(RimError):
    pass


class NotLean(RimError):
    pass


class Unlike(RimError):
    pass


class NoCorner(RimError):
    pass


class NoRegion(RimError):
    pass


class Taken(RimError):
    pass


class NoWire(RimError):
    pass


class NoText(RimError):
    pass


class NoRow(RimError):
    pass
