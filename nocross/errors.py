"""The refusals, one class for each kind."""


class RingError(ValueError):
    """Any refusal."""


class BadCount(RingError):
    """No count of places, or of groups."""


class BadGroup(RingError):
    """No group of places of the ring."""


class Twice(RingError):
    """A place that stands in the groups twice."""


class Crossed(RingError):
    """Two groups that cross."""


class NoPlace(RingError):
    """No place of the ring, or no number of steps round it."""


class Unlike(RingError):
    """Two ties with unlike counts of places."""


class NotFiner(RingError):
    """A tie that is not finer than the other one."""


class NoNumber(RingError):
    """No number of a tie."""


class NoText(RingError):
    """No text of a tie."""
