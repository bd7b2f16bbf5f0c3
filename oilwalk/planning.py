"""Capacities of lanterns, and the stops of a bearer in a hurry."""

from oilwalk.checks import check_number_within, check_post, check_start

MOST_LEGS_JUDGED = 12
MOST_LEGS_IN_A_HURRY = 60


def judge_stretch(way, post, legs):
    """Return the greatest lack of the stretches from a post with at most so many legs."""
    check_post(post, len(way))
    check_number_within(legs, 1, MOST_LEGS_JUDGED)
    return max(_lacks(way.posts, post, legs))


def worst_stretch(way):
    """Return the post, the legs and the lack of the stretch that lacks most."""
    return _worst(way.posts)


def least_capacity(way):
    """Return the least capacity with which a full lantern never goes out, or None."""
    if way.surplus < 0:
        return None
    return _greatest_lack(way.posts)


def helpful_posts(way):
    """Return the posts at which one unit more makes the least capacity smaller."""
    if way.surplus < 0:
        return []
    posts = way.posts
    least = _greatest_lack(posts)
    return [post for post in range(len(posts)) if _greatest_lack(_with_one_more(posts, post)) < least]


def fewest_stops(way, post, oil, legs):
    """Return the least number of stops for so many legs, or None."""
    stops = stops_needed(way, post, oil, legs)
    return None if stops is None else len(stops)


def stops_needed(way, post, oil, legs):
    """Return a list of as few stops as can be, told by the legs before them, or None."""
    check_start(way, post, oil)
    check_number_within(legs, 1, MOST_LEGS_IN_A_HURRY)
    plans = _plans(way, post, oil, legs)
    if not plans:
        return None
    _, stops = plans[min(list(plans))]
    return stops


def _lacks(posts, first, legs):
    """Return the lacks of the stretches from a post with 1, 2 and so on legs."""
    ahead = posts[first:] + posts[:first]
    # The oil at the first post does not count when the stretch begins there.
    lack = ahead[0][0]
    lacks = []
    for leg in range(legs):
        oil, steps = ahead[int(leg) % len(ahead)]
        lack = lack - oil + steps
        lacks.append(lack)
    return lacks


def _worst(posts):
    many = len(posts)
    lacks = [_lacks(posts, post, many) for post in range(many)]
    worst = (0, 1, lacks[0][0])
    # In this order, the first one of several has the fewest legs and the least post.
    for legs in range(1, many + 1):
        for post in range(many):
            if lacks[post][legs - 1] > worst[2]:
                worst = (post, legs, lacks[post][legs - 1])
    return worst


def _greatest_lack(posts):
    return _worst(posts)[2]


# A way cannot be asked for this: its posts have at most 10 ** 9 units.
def _with_one_more(posts, post):
    oil, steps = posts[post]
    return posts[:post] + ((oil + 1, steps),) + posts[post + 1:]


def _plans(way, post, oil, legs):
    """Return for each possible number of stops the most oil that is left, and the stops."""
    plans = {0: (oil, [])}
    for leg in range(legs):
        there, steps = way[int(post + leg) % len(way)]
        longer = {}
        for held, stops in list(plans.values()):
            _keep_better(longer, held - steps, stops)
            _keep_better(longer, min(way.capacity, held + there) - steps, stops + [leg])
        plans = longer
    return plans


# More oil is never worse, so of equally many stops the one plan is enough.
def _keep_better(plans, left, stops):
    if left < 0:
        return
    many = len(stops)
    if many not in plans or plans[many][0] < left:
        plans[many] = (left, stops)
