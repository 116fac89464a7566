"""The errors that the modules of rigs raise, besides those in planetbox/errors.py."""

from planetbox.errors import BoxError


class InvalidRig(BoxError):
    """The argument is not a rig."""


class InvalidBurdens(BoxError):
    """The argument is not burdens of the rig."""


class InvalidCourse(BoxError):
    """The argument is not a course of the engaged set."""


class InvalidTorques(BoxError):
    """The argument is not torques for the engaged set."""


class InvalidFraction(BoxError):
    """The argument is not a fraction that is allowed here."""


class NotCarried(BoxError):
    """The engaged set is not carried with the burdens."""


class NotSettled(BoxError):
    """Not all shafts are settled."""


class WouldBar(BoxError):
    """The engaged set would be barred."""


class NotARecord(BoxError):
    """The argument is not a record."""


class InvalidWheel(BoxError):
    """The argument is not a freewheel that is allowed here."""

    def __init__(self, wheel):
        super().__init__("not a freewheel that is allowed here")
        self.wheel = wheel
