"""What the program refuses, one class for each kind of refusal."""


class PikeError(ValueError):
    """Something handed in is not as it must be, or cannot be done now."""

    def __init__(self, reason):
        super().__init__(reason)
        # The desk answers a refusal by what it is called.
        self.called = self.__class__.__name__


class BadFact(PikeError):
    """No good fact; place is that of the first thing that is wrong, from 0."""

    def __init__(self, place):
        super().__init__(f"no good fact: place {place} is wrong")
        self.place = place


class BadStub(PikeError):
    """A text that is not just what a stub is written as."""


class BadNet(PikeError):
    """More than twelve roads, or a road with a place or a gate that is none."""


class BadPlace(PikeError):
    """No place, or errands that are too many or not unlike."""


class BadHorses(PikeError):
    """A count of horses that no carriage has."""


class BadDay(PikeError):
    """No day."""


class BadCount(PikeError):
    """A count of deeds that do not stand."""


class Other(PikeError):
    """A fact put right by one with another first text."""


class Full(PikeError):
    """A roll that takes no more facts."""


class Nothing(PikeError):
    """No deed to take back or to do again."""


class BadPage(PikeError):
    """A text that is no page; row is that of the first row that is wrong, from 0."""

    def __init__(self, row):
        super().__init__(f"no good page: row {row} is wrong")
        self.row = row


class Missing(KeyError):
    """Something was asked for that is not there; number is what was asked for."""

    def __init__(self, number):
        super().__init__(f"there is no {number}")
        self.called = self.__class__.__name__
        self.number = number


class NoPassing(Missing):
    """No passing has the number."""


class NoFact(Missing):
    """No fact that stands has the number."""


class NoCarriage(Missing):
    """No carriage has the number."""
