"""Texts: the rows that tell a way, and logs of walks."""

from oilwalk.checks import check_number_within, check_start
from oilwalk.errors import NotationError
from oilwalk.walking import after_leg, taken
from oilwalk.ways import Way

MOST_LEGS_IN_A_LOG = 100
MOST_DIGITS = 10


def format_way(way):
    """Return the text of a way."""
    rows = [f"post {oil} {steps}" for oil, steps in way.posts]
    return "\n".join([f"lantern {way.capacity}"] + rows)


def parse_way(text):
    """Return the way of such a text."""
    # What is no text does not even have a first word.
    if not isinstance(text, str):
        raise NotationError(0, 0)
    rows = [row.split(" ") for row in text.split("\n")]
    capacity = _numbers(0, rows[0], "lantern", 1)[0]
    posts = [_numbers(row, words, "post", 2) for row, words in enumerate(rows[1:], start=1)]
    return Way(capacity, *posts)


def log_text(way, post, oil, legs):
    """Return a line for the beginning of a walk, and one for each arrival."""
    check_start(way, post, oil)
    check_number_within(legs, 1, MOST_LEGS_IN_A_LOG)
    lines = [_log_line(0, post, oil)]
    for leg in range(legs):
        left = after_leg(way, post, oil)
        if left is None:
            lines.append(_log_line(leg + 1, "--", taken(way, post, oil)))
            break
        post = int(post + 1) % len(way)
        oil = left
        lines.append(_log_line(leg + 1, post, oil))
    return "\n".join(lines)


def _numbers(row, words, name, many):
    """Return the numbers of a row, which has this name and so many of them."""
    if words[0] != name:
        raise NotationError(row, 0)
    for word in range(1, many + 1):
        if word >= len(words) or not _is_number_word(words[word]):
            raise NotationError(row, word)
    if len(words) > many + 1:
        raise NotationError(row, many + 1)
    return tuple([int(word) for word in words[1:]])


def _is_number_word(word):
    # Other writings have digits, too, which Python would take for numbers.
    if not word.isascii() or not word.isdigit() or len(word) > MOST_DIGITS:
        return False
    return word == "0" or not word.startswith("0")


def _log_line(legs, place, amount):
    return f"{legs:>3} {place:>2} {amount:_>13,}"
