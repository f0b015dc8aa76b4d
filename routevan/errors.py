"""The refusals of the program."""


class RouteError(ValueError):
    """Any refusal."""


class BadRoad(RouteError):
    """A road has no such word, or no such length."""


class OffRoad(RouteError):
    """A road has no such place."""


class BadTime(RouteError):
    """A number is no time, or a stop closes before it opens."""


class TooMany(RouteError):
    """A day has more stops than it may have."""


class BadOrder(RouteError):
    """An order names what is no stop, or a stop twice."""


class Missed(RouteError):
    """An order comes to a stop that has closed."""


class NoDay(RouteError):
    """A text is not written as a day is."""
