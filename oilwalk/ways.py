"""Round ways with posts at which there is oil."""

from oilwalk.checks import MOST_TIMES, MOST_UNITS, check_number_within, check_post, is_number_within
from oilwalk.errors import InvalidWay
from oilwalk.stretches import Stretch

MOST_POSTS = 12


class Way:
    """A round way: a lantern's capacity and posts of oil and steps."""

    def __init__(self, capacity, *posts):
        if not is_number_within(capacity, 1, MOST_UNITS):
            raise InvalidWay("capacity", 0)
        wrong = _first_wrong(posts)
        if wrong is not None:
            raise InvalidWay("posts", wrong)
        self._capacity = capacity
        self._posts = posts

    @classmethod
    def even(cls, capacity, count, oil, steps):
        """Return the way with so many equal posts."""
        check_number_within(count, 1, MOST_POSTS)
        posts = [(oil, steps) for _ in range(count)]
        return cls(capacity, *posts)

    @property
    def capacity(self):
        return self._capacity

    @property
    def posts(self):
        return self._posts

    @property
    def surplus(self):
        """The sum of all oil less that of all steps."""
        return sum([oil - steps for oil, steps in self._posts])

    def __len__(self):
        return len(self._posts)

    def __getitem__(self, at):
        check_post(at, len(self._posts))
        return self._posts[at]

    # Without this, Python would walk a way in loops by its indexes.
    def __iter__(self):
        raise TypeError("ways are not walked in loops")

    def __rshift__(self, other):
        check_number_within(other, 0, len(self._posts) - 1)
        posts = self._posts_from(other)
        return Way(self._capacity, *posts)

    def __invert__(self):
        # The leg from a post is now the one that led to it before.
        legs = self._posts[::-1]
        stops = legs[-1:] + legs[:-1]
        posts = [(stop[0], leg[1]) for stop, leg in zip(stops, legs)]
        return Way(self._capacity, *posts)

    def __eq__(self, other):
        return isinstance(other, Way) and self._capacity == other._capacity and self._posts == other._posts

    def with_post(self, post, oil, steps):
        """Return the way in which the post is like this."""
        check_post(post, len(self._posts))
        posts = list(self._posts)
        posts[post] = (oil, steps)
        return Way(self._capacity, *posts)

    def with_capacity(self, capacity):
        """Return the way with another lantern."""
        return Way(capacity, *self._posts)

    def stretch(self, post, legs):
        """Return the stretch from the arrival at a post over so many legs."""
        check_post(post, len(self._posts))
        check_number_within(legs, 1, MOST_TIMES)
        parts = [_leg(self._capacity, oil, steps) for oil, steps in self._posts_from(post)]
        rounds, rest = divmod(legs, len(parts))
        if rounds == 0:
            return _joined(parts[:rest])
        return _joined([_joined(parts) * rounds] + parts[:rest])

    def _posts_from(self, post):
        return self._posts[post:] + self._posts[:post]


def _is_post(value):
    return (
        isinstance(value, tuple)
        and len(value) == 2
        and is_number_within(value[0], 0, MOST_UNITS)
        and is_number_within(value[1], 1, MOST_UNITS)
    )


def _first_wrong(posts):
    """Return the index that InvalidWay tells, or None if all posts are valid."""
    for index, post in enumerate(posts):
        if index == MOST_POSTS or not _is_post(post):
            return index
    return None if posts else 0


def _leg(capacity, oil, steps):
    """Return the stretch of one leg; no lantern lights more steps than it holds."""
    if steps > capacity:
        return Stretch.barred()
    return Stretch(max(0, steps - oil), oil - steps, capacity - steps)


def _joined(parts):
    whole = parts[0]
    for part in parts[1:]:
        whole = whole + part
    return whole
