"""Live walks: walks that go on, and whose operations can be undone."""

from oilwalk.checks import MOST_UNITS, check_number_within, check_post, check_start
from oilwalk.errors import AlreadyOpen, GoesOut, InvalidOperation, WalkError
from oilwalk.walking import after_leg, taken

MOST_LEGS_AT_ONCE = 1000

# The operations of a live walk, with how many arguments they take.
OPERATIONS = {"walk": 1, "spill": 1, "refill": 2, "trade": 1}


class Moment:
    """What is the case between two operations; never changed."""

    def __init__(self, way, post, oil, legs):
        self.way = way
        self.post = post
        self.oil = oil
        self.legs = legs


class Course:
    """The present moment, and the operations that led to it or were undone.

    Each operation in effect stands beside the moment before it, each one
    that was undone beside the moment after it.
    """

    def __init__(self, now, done, undone):
        self.now = now
        self.done = done
        self.undone = undone

    def copied(self):
        return Course(self.now, list(self.done), list(self.undone))

    def go_on(self, operation, moment):
        self.done.append((operation, self.now))
        self.undone = []
        self.now = moment

    def go_back(self):
        if not self.done:
            return False
        operation, before = self.done.pop()
        self.undone.append((operation, self.now))
        self.now = before
        return True

    def go_forth(self):
        if not self.undone:
            return False
        # Operations depend on nothing else, so the moment after it is the same again.
        operation, after = self.undone.pop()
        self.done.append((operation, self.now))
        self.now = after
        return True


class LiveWalk:
    """A walk that goes on; in a block `with live:` it is tried out only."""

    def __init__(self, way, post, oil):
        check_start(way, post, oil)
        self._course = Course(Moment(way, post, oil, 0), [], [])
        # The course before a block that is entered.
        self._kept = None

    @classmethod
    def replay(cls, way, post, oil, operations):
        """Return a live walk after these operations."""
        live = cls(way, post, oil)
        live.apply(*operations)
        return live

    @property
    def way_now(self):
        return self._course.now.way

    @property
    def post_now(self):
        return self._course.now.post

    @property
    def oil_now(self):
        return self._course.now.oil

    @property
    def walked(self):
        """The number of all legs."""
        return self._course.now.legs

    @property
    def history(self):
        """The list of all operations in effect."""
        return [operation for operation, _ in self._course.done]

    def walk(self, legs):
        """Walk so many legs; return the list of the oil on each arrival."""
        check_number_within(legs, 0, MOST_LEGS_AT_ONCE)
        now = self._course.now
        arrivals = _arrivals(now, legs)
        oil = arrivals[-1] if arrivals else now.oil
        post = int(now.post + legs) % len(now.way)
        self._course.go_on(("walk", legs), Moment(now.way, post, oil, now.legs + legs))
        return arrivals

    def spill(self, oil):
        """Pour so much oil away; return how much is left."""
        now = self._course.now
        check_number_within(oil, 0, now.oil)
        left = now.oil - oil
        self._course.go_on(("spill", oil), Moment(now.way, now.post, left, now.legs))
        return left

    def refill(self, post, oil):
        """Have this much at a post from now on; return how much it was."""
        now = self._course.now
        check_post(post, len(now.way))
        check_number_within(oil, 0, MOST_UNITS)
        before, steps = now.way[post]
        way = now.way.with_post(post, oil, steps)
        self._course.go_on(("refill", post, oil), Moment(way, now.post, now.oil, now.legs))
        return before

    def trade(self, capacity):
        """Pour the oil into another lantern; return how much does not fit."""
        check_number_within(capacity, 1, MOST_UNITS)
        now = self._course.now
        way = now.way.with_capacity(capacity)
        fits = min(capacity, now.oil)
        self._course.go_on(("trade", capacity), Moment(way, now.post, fits, now.legs))
        return now.oil - fits

    def undo(self):
        """Undo the last operation in effect; return False if there is none."""
        return self._course.go_back()

    def redo(self):
        """Execute what was undone last once more; return False if there is none."""
        return self._course.go_forth()

    def apply(self, *operations):
        """Execute all operations, or none if one fails; return their results."""
        for index, operation in enumerate(operations):
            if not _is_operation(operation):
                raise InvalidOperation(index)
        before = self._course
        self._course = before.copied()
        results = []
        try:
            for operation in operations:
                results.append(self._execute(operation))
        except WalkError:
            self._course = before
            raise
        return results

    def oil_with(self, *operations):
        """Return how much oil would be there after these operations."""
        with self:
            self.apply(*operations)
            oil = self.oil_now
        return oil

    def __enter__(self):
        if self._kept is not None:
            raise AlreadyOpen("a block of this live walk is entered already")
        self._kept = self._course
        self._course = self._course.copied()
        return self

    def __exit__(self, kind, value, trace):
        self._course = self._kept
        self._kept = None

    def _execute(self, operation):
        name, *arguments = operation
        if name == "walk":
            return self.walk(*arguments)
        if name == "spill":
            return self.spill(*arguments)
        if name == "refill":
            return self.refill(*arguments)
        return self.trade(*arguments)


def _arrivals(now, legs):
    """Return the oil on each arrival from a moment on."""
    post = now.post
    oil = now.oil
    arrivals = []
    for leg in range(legs):
        left = after_leg(now.way, post, oil)
        if left is None:
            raise GoesOut(leg, taken(now.way, post, oil))
        arrivals.append(left)
        oil = left
        post = int(post + 1) % len(now.way)
    return arrivals


def _is_operation(value):
    if not isinstance(value, tuple) or not value or not isinstance(value[0], str):
        return False
    return OPERATIONS.get(value[0]) == len(value) - 1
