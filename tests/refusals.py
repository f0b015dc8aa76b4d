"""What the tests share: by which error a call is refused."""

from routevan.errors import RouteError


def refusal(call, *given):
    """The class of the refusal, and that class only; None where nothing is refused."""
    try:
        call(*given)
    except RouteError as error:
        return type(error)
    return None
