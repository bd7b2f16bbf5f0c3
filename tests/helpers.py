"""What several test files use."""

import random

from oilwalk.ways import Way

# Values that are not numbers for the package, whatever the limits are.
NO_NUMBERS = (None, True, False, "", "1", "one", [], [1], (), (1,), (1, 2), [(1, 2)], 1.0, 0.5)

BILLION = 10 ** 9
GREAT = 10 ** 18


def walk(capacity, posts, post, oil, legs):
    """Walk one leg after another; return the oil on arrival or None."""
    for _ in range(legs):
        oil = min(capacity, oil + posts[post][0])
        if oil < posts[post][1]:
            return None
        oil -= posts[post][1]
        post = (post + 1) % len(posts)
    return oil


def arrivals(capacity, posts, post, oil, legs):
    """Walk one leg after another; return the oil on each arrival, and None or the steps until it goes out."""
    found = []
    for _ in range(legs):
        oil = min(capacity, oil + posts[post][0])
        if oil < posts[post][1]:
            return found, oil
        oil -= posts[post][1]
        found.append(oil)
        post = (post + 1) % len(posts)
    return found, None


def some_rows(seed, many, most_posts, most_oil, most_steps, most_capacity):
    """Return capacities and posts of small ways, equally many with each number of posts."""
    told = random.Random(seed)
    found = []
    for at in range(many):
        rows = [(told.randint(0, most_oil), told.randint(1, most_steps)) for _ in range(at % most_posts + 1)]
        found.append((told.randint(1, most_capacity), tuple(rows)))
    return found


def ways_of_all_sizes(seed):
    """Return ways of 1 to 12 posts with small, with any, and with the least and the greatest numbers."""
    told = random.Random(seed)
    found = [Way(capacity, *rows) for capacity, rows in some_rows(seed, 120, 12, 400, 400, 400)]
    for many in range(1, 13):
        rows = [(told.randint(0, BILLION), told.randint(1, BILLION)) for _ in range(many)]
        found.append(Way(told.randint(1, BILLION), *rows))
        found.append(Way.even(BILLION, many, BILLION, BILLION))
        found.append(Way.even(1, many, 0, 1))
    return found


def numbers(stretch):
    return (stretch.need, stretch.gain, stretch.top)


def raised(error, call, *arguments):
    """Return the error of just this class that the call raises."""
    try:
        result = call(*arguments)
    except error as caught:
        if caught.__class__ is not error:
            raise AssertionError(f"{caught.__class__.__name__} instead of {error.__name__}") from caught
        return caught
    raise AssertionError(f"no {error.__name__}, but {result!r}")
