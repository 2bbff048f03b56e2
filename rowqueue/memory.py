"""For how long a receiver has to remember a row."""

from rowqueue.bounds import at_most


def least_once(scene, row, *, most=1000):
    """Return the least number of ticks so that the row never has a second effect, or None."""
    answer = at_most(scene, ("gap", row), most=most)
    if answer[0] == "none":
        return 0
    return answer[1] + 1 if answer[0] == "most" else None
