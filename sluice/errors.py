"""The refusals: one class for each, all under SluiceError."""


class SluiceError(ValueError):
    pass


class NoRiver(SluiceError):
    pass


class NoReach(SluiceError):
    pass


class NoLicence(SluiceError):
    pass


class NoNumber(SluiceError):
    pass


class NoHolder(SluiceError):
    pass


class NotYours(SluiceError):
    pass


class NotAlone(SluiceError):
    pass


class TooMuch(SluiceError):
    pass


class Full(SluiceError):
    pass


class NoPaper(SluiceError):
    pass


class NoCut(SluiceError):
    pass


class NoPond(SluiceError):
    pass


class NoDay(SluiceError):
    pass


class Fixed(SluiceError):
    pass


class Harms(SluiceError):
    pass


class NoRow(SluiceError):
    pass
