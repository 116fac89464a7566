"""The errors that the program raises.

The messages name no value: a value may be an integer too long to be written out.
"""


class BoxError(ValueError):
    """The base class of all errors of the program."""


class InvalidBox(BoxError):
    """The argument is not a box."""


class InvalidEngaged(BoxError):
    """The argument is not an engaged set of the box."""


class InvalidWeights(BoxError):
    """The argument is not weights for the engaged set."""


class InvalidPrices(BoxError):
    """The argument is not prices for the box."""


class InvalidNumber(BoxError):
    """The argument is not a number that is allowed here."""


class NotHeld(BoxError):
    """The engaged set is not held."""


class NotLoose(BoxError):
    """The engaged set is not loose."""


class NotDriven(BoxError):
    """The engaged set is not driven."""


class NotFull(BoxError):
    """The engaged set is not a full set."""


class WouldHold(BoxError):
    """The engaged set would be held."""


class TooLarge(BoxError):
    """The box would be too large."""


class NotACertificate(BoxError):
    """The argument is not a certificate."""


class InvalidPart(BoxError):
    """The argument is not the number of a part."""

    def __init__(self, part):
        super().__init__("not the number of a part")
        self.part = part


class InvalidShaft(BoxError):
    """The argument is not a shaft that is allowed here."""

    def __init__(self, shaft):
        super().__init__("not a shaft that is allowed here")
        self.shaft = shaft


class InvalidDevice(BoxError):
    """The argument is not a device that is allowed here."""

    def __init__(self, device):
        super().__init__("not a device that is allowed here")
        self.device = device


class IsEngaged(BoxError):
    """The device is engaged."""

    def __init__(self, device):
        super().__init__("the device is engaged")
        self.device = device


class IsReleased(BoxError):
    """The device is released."""

    def __init__(self, device):
        super().__init__("the device is released")
        self.device = device


class Full(BoxError):
    """There are as many as the limit allows."""

    def __init__(self, limit):
        super().__init__("there are as many as the limit allows")
        self.limit = limit


class InvalidMark(BoxError):
    """The argument is not the number of a mark."""

    def __init__(self, number):
        super().__init__("not the number of a mark")
        self.number = number
