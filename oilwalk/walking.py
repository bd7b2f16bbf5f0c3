"""Walks: how much oil is left on arrival, and where the lantern goes out."""

from oilwalk.checks import MOST_TIMES, check_number_within, check_start

MOST_LEGS_COMPARED = 2000


def taken(way, post, oil):
    """Return what the lantern holds behind a post, for the oil on arrival at it."""
    return min(way.capacity, oil + way[post][0])


def after_leg(way, post, oil):
    """Return the oil on arrival at the next post, or None if the lantern goes out."""
    held = taken(way, post, oil)
    steps = way[post][1]
    return None if held < steps else held - steps


def oil_after(way, post, oil, legs):
    """Return the oil on arrival after so many legs, or None if it goes out."""
    check_start(way, post, oil)
    check_number_within(legs, 0, MOST_TIMES)
    if legs == 0:
        return oil
    part = way.stretch(post, legs)
    return part(oil)


def is_endless(way, post, oil):
    """Tell whether the lantern never goes out."""
    check_start(way, post, oil)
    least = least_oil(way, post)
    return least is not None and oil >= least


def goes_out(way, post, oil):
    """Return the whole legs and the steps on the next one, or None if it never does."""
    if is_endless(way, post, oil):
        return None
    # Two rounds are enough where rounds lose nothing; where they lose, each
    # of them costs at least one unit.
    walked = 0
    beyond = (way.capacity + 1) * len(way)
    while beyond - walked > 1:
        legs = (walked + beyond) // 2
        if oil_after(way, post, oil, legs) is None:
            beyond = legs
        else:
            walked = legs
    last = int(post + walked) % len(way)
    return (walked, taken(way, last, oil_after(way, post, oil, walked)))


def settled(way, post, oil):
    """Return after how many rounds the oil stays the same, and this oil, or None."""
    if not is_endless(way, post, oil):
        return None
    whole = way.stretch(post, len(way))
    if oil > whole.top:
        return (1, whole.top)
    if whole.gain == 0:
        return (0, oil)
    rounds = (whole.top - oil + whole.gain - 1) // whole.gain
    return (rounds, whole.top)


def least_oil(way, post):
    """Return the least oil with which the lantern never goes out, or None."""
    both_rounds = way.stretch(post, 2 * len(way))
    return None if way.surplus < 0 else both_rounds.need


def good_posts(way):
    """Return the posts at which a walk without oil on arrival never ends."""
    return [post for post in range(len(way)) if least_oil(way, post) == 0]


def first_unlike(way, other, post, oil):
    """Return after how many legs the oil differs on two ways, or None."""
    check_start(way, post, oil)
    check_start(other, post, oil)
    one_post = other_post = post
    one_oil = other_oil = oil
    for walked in range(MOST_LEGS_COMPARED):
        one_oil = after_leg(way, one_post, one_oil)
        other_oil = after_leg(other, other_post, other_oil)
        if one_oil != other_oil:
            return walked + 1
        if one_oil is None:
            return None
        one_post = int(one_post + 1) % len(way)
        other_post = int(other_post + 1) % len(other)
    return None
