"""Hidden oil: what walks tell of the amount of oil at one post."""

from oilwalk.checks import MOST_TIMES, MOST_UNITS, check_number_within, check_post, check_start, is_number_within
from oilwalk.errors import Contradiction
from oilwalk.walking import is_endless, oil_after


class OilObserver:
    """Knows a way, but not the oil at one of its posts; learns it from walks.

    More oil at a post never leaves less oil, so the least and the greatest
    possible amount tell all of them.
    """

    def __init__(self, way, post):
        check_post(post, len(way))
        self._way = way
        self._post = post
        self._least = 0
        self._greatest = MOST_UNITS
        self._accepted = []

    @classmethod
    def from_log(cls, way, post, *observations):
        """Return an observer after these observations."""
        observer = cls(way, post)
        for observation in observations:
            observer.see(*observation)
        return observer

    @property
    def oil_range(self):
        """The least and the greatest possible amount."""
        return (self._least, self._greatest)

    @property
    def observations(self):
        """The list of all accepted observations."""
        return list(self._accepted)

    def how_many(self):
        """Return the number of possible amounts."""
        return self._greatest - self._least + 1

    def __contains__(self, amount):
        return is_number_within(amount, self._least, self._greatest)

    def see(self, start, held, legs, left):
        """Learn how much oil was left after a walk; return how many amounts remain."""
        check_start(self._way, start, held)
        check_number_within(legs, 0, MOST_TIMES)
        if left is not None:
            check_number_within(left, 0, self._way.capacity)
        rank = _rank(left)
        least = self._first_amount(lambda way: _rank(oil_after(way, start, held, legs)) >= rank)
        beyond = self._first_amount(lambda way: _rank(oil_after(way, start, held, legs)) > rank)
        if least == beyond:
            raise Contradiction("no possible amount leaves this oil")
        self._least = least
        self._greatest = beyond - 1
        self._accepted.append((start, held, legs, left))
        return self.how_many()

    def left_range(self, start, held, legs):
        """Return the oil after a walk with the least and with the greatest amount."""
        with_least = oil_after(self._way_with(self._least), start, held, legs)
        with_greatest = oil_after(self._way_with(self._greatest), start, held, legs)
        return (with_least, with_greatest)

    def least_endless(self, start, held):
        """Return the least possible amount for a walk that never ends, or None."""
        check_start(self._way, start, held)
        amount = self._first_amount(lambda way: is_endless(way, start, held))
        return None if amount > self._greatest else amount

    def _way_with(self, amount):
        steps = self._way[self._post][1]
        return self._way.with_post(self._post, amount, steps)

    def _first_amount(self, holds):
        """Return the first possible amount with which it holds for the way.

        If there is none, this is the number that follows the greatest amount.
        What holds for an amount must hold for every greater one.
        """
        first = self._least
        beyond = self._greatest + 1
        while first < beyond:
            amount = (first + beyond) // 2
            if holds(self._way_with(amount)):
                beyond = amount
            else:
                first = amount + 1
        return first


# A lantern that went out comes before one that arrives without oil.
def _rank(left):
    return -1 if left is None else left
