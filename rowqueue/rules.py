"""What the lines of a setting come to for the machine."""

from rowqueue.kinds import is_integer
from rowqueue.plans import place_of


class Rules:
    """The numbers that the machine goes by; a line without a number gives 0."""

    def __init__(self, setting):
        self.stages = tuple(setting.plan())
        self.check_at = place_of(self.stages, "check")
        self.effect_at = place_of(self.stages, "effect")
        self.finish_at = place_of(self.stages, "finish")
        self.fenced = setting.fence
        self.linked = setting.hold == "link"
        self.term = _number(setting.hold)
        self.checked = self.term > 0 and self.check_at is not None
        self.trust = max(self.term - setting.margin, 0)
        self.slack = setting.slow
        self.most_tries = _number(setting.tries)
        self.by_take = setting.counted == "take"
        self.pauses = setting.pause
        self.kept_tries = _kept_tries(setting)
        self.recall = _number(setting.once)
        self.forever = setting.once == "ever"

    def checks_from(self, point):
        """Return whether a check that can be late is to come from this transaction on."""
        return self.checked and self.check_at >= point

    def clock(self):
        """Return own and lag of a worker that trusts its hold anew, before its check."""
        if not self.checked or self.trust == 0:
            return (0, 0)
        return (self.trust, self.slack)


def _number(value):
    return value if is_integer(value) else 0


def _kept_tries(setting):
    """Return up to which number the attempts of a row make a difference."""
    if is_integer(setting.tries):
        return setting.tries
    return 2 if len(setting.pause) == 2 else 0
