"""Settings: the twelve lines that say how rows are taken, held and finished."""

from rowqueue.errors import BadLine, NoPlan, Wrong
from rowqueue.plans import read_plan

DEFAULTS = {
    "order": "oldest",
    "skip": "yes",
    "hold": "2",
    "margin": "0",
    "slow": "0",
    "plan": "take effect finish",
    "fence": "yes",
    "tries": "ever",
    "count": "take",
    "pause": "0",
    "dead": "opens",
    "once": "no",
}

# The values of the line plan are too many to stand here: see _is_value.
VALUES = {
    "order": ("oldest", "weight", "key"),
    "skip": ("yes", "no"),
    "hold": ("1", "2", "3", "4", "ever", "link"),
    "margin": ("0", "1", "2", "3"),
    "slow": ("0", "1", "2"),
    "fence": ("yes", "no"),
    "tries": ("1", "2", "3", "4", "ever"),
    "count": ("take", "fail"),
    "pause": ("0", "1", "2", "3", "0 0", "0 1", "0 2", "0 3", "1 1", "1 2", "1 3", "2 2", "2 3", "3 3"),
    "dead": ("opens", "closes"),
    "once": ("no", "1", "2", "3", "4", "5", "6", "ever"),
}


class Setting:
    """A setting. Lines that are not given have their defaults."""

    def __init__(self, lines=()):
        if not isinstance(lines, (list, tuple)) or len(lines) > len(DEFAULTS):
            raise Wrong(0)
        self._values = _with_lines(dict(DEFAULTS), lines)

    def __eq__(self, other):
        return isinstance(other, Setting) and self._values == other._values

    def __len__(self):
        return len(self._odd_lines())

    def __contains__(self, line):
        return isinstance(line, str) and line in self.lines()

    def __repr__(self):
        return f"Setting({self._odd_lines()!r})"

    @property
    def order(self):
        return self._values["order"]

    @property
    def dead(self):
        return self._values["dead"]

    @property
    def counted(self):
        return self._values["count"]

    @property
    def skip(self):
        return self._values["skip"] == "yes"

    @property
    def fence(self):
        return self._values["fence"] == "yes"

    @property
    def margin(self):
        return int(self._values["margin"])

    @property
    def slow(self):
        return int(self._values["slow"])

    @property
    def hold(self):
        return _number_or_word(self._values["hold"])

    @property
    def tries(self):
        return _number_or_word(self._values["tries"])

    @property
    def once(self):
        return _number_or_word(self._values["once"])

    @property
    def pause(self):
        return tuple([int(part) for part in self._values["pause"].split(" ")])

    def plan(self):
        """Return the plan."""
        return read_plan(self._values["plan"])

    def lines(self):
        """Return the twelve lines, in their order."""
        return [f"{word} {value}" for word, value in self._values.items()]

    def changed(self, *lines):
        """Return the Setting in which these lines stand instead of those with their words."""
        values = _with_lines(dict(self._values), lines)
        return Setting([f"{word} {value}" for word, value in values.items()])

    def apart(self, other):
        """Return the words whose lines differ from those of another Setting."""
        return [word for word in self._values if self._values[word] != other._values[word]]

    def _odd_lines(self):
        return [f"{word} {value}" for word, value in self._values.items() if value != DEFAULTS[word]]


def read_setting(text):
    """Return the Setting that a text writes, with a line feed between each two lines."""
    if not isinstance(text, str):
        raise BadLine(0)
    lines = text.split("\n") if text != "" else []
    # Before the constructor, which calls a text of more than twelve lines Wrong.
    at = _first_bad(lines)
    if at is not None:
        raise BadLine(at)
    return Setting(lines)


def _with_lines(values, lines):
    """Return the values, a dict of the caller's own, with those of the lines put in."""
    at = _first_bad(lines)
    if at is not None:
        raise BadLine(at)
    for line in lines:
        word, _, value = line.partition(" ")
        values[word] = value
    return values


def _first_bad(lines):
    """Return the index of the first item that is no line or has the word of an earlier one, or None."""
    words = set()
    for at, line in enumerate(lines):
        if not _is_line(line):
            return at
        word = line.partition(" ")[0]
        if word in words:
            return at
        words.add(word)
    return None


def _is_line(thing):
    if not isinstance(thing, str):
        return False
    word, _, value = thing.partition(" ")
    return word in DEFAULTS and _is_value(word, value)


def _is_value(word, value):
    if word != "plan":
        return value in VALUES[word]
    try:
        read_plan(value)
    except NoPlan:
        return False
    return True


def _number_or_word(text):
    return int(text) if text.isdigit() else text
