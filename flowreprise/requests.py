"""What runs ask the outside for."""

LEAST_NUMBERS = {"timer": 0, "random": 1}
NAMED = ("act", "signal")


def may_ask(request):
    """Returns whether the integer of a request is not too small for it."""
    return request[0] not in LEAST_NUMBERS or request[1] >= LEAST_NUMBERS[request[0]]


def name_of(request):
    """Returns the name of an activity or a signal, None for other requests."""
    return request[1] if request[0] in NAMED else None


def kind_wanted(request):
    """Returns the type that a request for an activity or a signal tells."""
    return request[-1]
