"""What the other files ask of their arguments."""

from oilwalk.errors import InvalidNumber, UnknownPost

MOST_UNITS = 10 ** 9
MOST_TIMES = 10 ** 18


def is_number(value):
    """True and False are integers for Python, but not for this package."""
    return isinstance(value, int) and not isinstance(value, bool)


def is_number_from(value, least):
    return is_number(value) and value >= least


def is_number_within(value, least, most):
    return is_number(value) and least <= value <= most


def check_number_from(value, least):
    if not is_number_from(value, least):
        raise InvalidNumber("not a number within the limits")


def check_number_within(value, least, most):
    if not is_number_within(value, least, most):
        raise InvalidNumber("not a number within the limits")


def check_post(value, many):
    if not is_number_within(value, 0, many - 1):
        raise UnknownPost("not the number of a post")


def check_start(way, post, oil):
    """Check the post at which a walk begins, then the oil on arrival at it."""
    check_post(post, len(way))
    check_number_within(oil, 0, way.capacity)
