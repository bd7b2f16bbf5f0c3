"""Stretches: what happens to the oil on some part of a way."""

from oilwalk.checks import MOST_TIMES, check_number_from, check_number_within, is_number, is_number_from
from oilwalk.errors import InvalidStretch


class Stretch:
    """A part of a way, told by the oil it needs, gains, and leaves at most."""

    def __init__(self, need, gain, top):
        if need is not None and not is_number_from(need, 0):
            raise InvalidStretch("need")
        if not is_number(gain) or (need is not None and need + gain < 0):
            raise InvalidStretch("gain")
        if not is_number_from(top, 0):
            raise InvalidStretch("top")
        self._need = need
        self._gain = 0 if need is None else gain
        self._top = 0 if need is None else top

    @classmethod
    def barred(cls):
        """Return the stretch that cannot be walked with any oil."""
        return cls(None, 0, 0)

    @property
    def need(self):
        return self._need

    @property
    def gain(self):
        return self._gain

    @property
    def top(self):
        return self._top

    def __call__(self, oil):
        """Return the oil behind the stretch, or None if it cannot be walked."""
        check_number_from(oil, 0)
        if self._need is None or oil < self._need:
            return None
        return min(self._top, oil + self._gain)

    def __bool__(self):
        return self._need is not None

    def __add__(self, other):
        if not isinstance(other, Stretch):
            return NotImplemented
        if self._need is None or other._need is None or self._top < other._need:
            return Stretch.barred()
        need = max(self._need, other._need - self._gain)
        top = min(self._top + other._gain, other._top)
        return Stretch(need, self._gain + other._gain, top)

    def __mul__(self, other):
        check_number_within(other, 1, MOST_TIMES)
        return _repeated(self, other)

    def __eq__(self, other):
        return (
            isinstance(other, Stretch)
            and self._need == other._need
            and self._gain == other._gain
            and self._top == other._top
        )


def _repeated(part, times):
    # Sums may be grouped in any way, so halves reach 10 ** 18 times in 60 calls.
    if times == 1:
        return part
    half = _repeated(part, times // 2)
    twice = half + half
    return twice + part if times & 1 else twice
