"""Lanes: how long rows wait that one worker serves in the order in which they come."""


class Lane:
    """Rows as a map of the wait of the first one to that of the row behind the last one. It never changes."""

    def __init__(self, *rows):
        least = 0
        drift = 0
        for service, gap in rows:
            least = max(0, least + service - gap)
            drift = drift + service - gap
        self._least = least
        self._drift = drift

    def __call__(self, wait):
        return max(self._least, wait + self._drift)

    def __mul__(self, other):
        least = max(other._least, self._least + other._drift)
        return _lane_of(least, self._drift + other._drift)

    def __eq__(self, other):
        return isinstance(other, Lane) and self._least == other._least and self._drift == other._drift

    def __repr__(self):
        return f"Lane({self._least}, {self._drift})"

    def __str__(self):
        return f"Lane({self._least}, {self._drift})"

    @property
    def least(self):
        return self._least

    @property
    def drift(self):
        return self._drift

    def repeated(self, times):
        """Return the Lane of the rows so many times."""
        if times == 0:
            return Lane()
        return _lane_of(self._least + (times - 1) * max(0, self._drift), times * self._drift)


def _lane_of(least, drift):
    """Return the Lane that is least for the wait 0, and has this drift."""
    # Behind the first row a wait is the greater of 0 and wait + drift - least, and the second one adds least.
    return Lane((0, least - drift), (least, 0))


def wait_of(rows, number, *, initial=0):
    """Return the wait of the row with a number, if the rows come again and again."""
    times, rest = divmod(number, len(rows))
    first = rows[:rest]
    lane = Lane(*rows).repeated(times) * Lane(*first)
    return lane(initial)


def total(rows, times, *, initial=0):
    """Return the sum of the waits of all rows, if they come so many times."""
    whole = Lane(*rows)
    ahead = Lane()
    found = 0
    for row in rows:
        found = found + _sum_behind(whole, ahead, times, initial)
        ahead = ahead * Lane(row)
    return found


def _sum_behind(whole, ahead, times, initial):
    """Return the sum of the waits of one row of each repetition: of that behind the rows of ahead."""
    # Behind k repetitions the wait is the greater of floor and base + k * drift. Only for k = 0 it may be less.
    if whole.drift > 0:
        floor = ahead.least
        base = ahead.drift + max(initial, whole.least - whole.drift)
    else:
        floor = max(ahead.least, ahead.drift + whole.least)
        base = ahead.drift + initial
    return ahead(initial) + _sum_of_greater(floor, base, whole.drift, times - 1)


def _sum_of_greater(floor, base, slope, many):
    """Return the sum, for k from 1 to many, of the greater of floor and base + k * slope."""
    if slope < 0:
        return _sum_of_greater(floor, base + (many + 1) * slope, -slope, many)
    if slope == 0:
        return many * max(floor, base)
    low = min(max((floor - base) // slope, 0), many)
    rising = slope * (many * (many + 1) - low * (low + 1)) // 2
    return low * floor + (many - low) * base + rising
