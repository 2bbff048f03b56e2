"""Scenes: a setting with rows, workers and accidents."""

from rowqueue.errors import BadRow, Wrong
from rowqueue.kinds import is_integer, is_name
from rowqueue.rules import Rules
from rowqueue.settings import Setting

ACCIDENTS = ("crash", "fail", "give", "more")


class Scene:
    """A scene. It never changes, and neither do its rules."""

    def __init__(self, setting, rows, *, workers=2, may=(), prompt=False):
        place = _first_wrong(setting, rows, workers, may, prompt)
        if place is not None:
            raise Wrong(place)
        at = _first_bad(rows)
        if at is not None:
            raise BadRow(at)
        self._setting = setting
        self._rows = tuple(rows)
        self._workers = workers
        self._may = may
        self._prompt = prompt
        self.rules = Rules(setting)
        self._deeds = tuple(_deeds_of(self.rules, rows, workers, may))

    def __eq__(self, other):
        return (
            isinstance(other, Scene)
            and self._setting == other._setting
            and self._rows == other._rows
            and self._workers == other._workers
            and self._may == other._may
            and self._prompt == other._prompt
        )

    @property
    def setting(self):
        return self._setting

    @property
    def workers(self):
        return self._workers

    @property
    def may(self):
        return self._may

    @property
    def prompt(self):
        return self._prompt

    def rows(self):
        """Return the rows."""
        return list(self._rows)

    def deeds(self):
        """Return the deeds that belong to the scene, in ascending order."""
        return list(self._deeds)


def _first_wrong(setting, rows, workers, may, prompt):
    """Return the place of the first argument that is not as described, or None."""
    right = [
        isinstance(setting, Setting),
        isinstance(rows, list) and 1 <= len(rows) <= 4,
        is_integer(workers) and 1 <= workers <= 3,
        _is_may(may),
        isinstance(prompt, bool),
    ]
    return right.index(False) if False in right else None


def _is_may(thing):
    if not isinstance(thing, tuple) or not all([isinstance(word, str) for word in thing]):
        return False
    return thing == tuple([word for word in ACCIDENTS if word in thing])


def _first_bad(rows):
    """Return the index of the first item that is no row of a scene, or None."""
    for at, row in enumerate(rows):
        if not _is_row(row, at) or _is_behind_late(rows, at):
            return at
    return None


def _is_row(thing, at):
    if not isinstance(thing, tuple) or len(thing) != 3:
        return False
    key, weight, origin = thing
    return is_name(key) and is_integer(weight) and 0 <= weight <= 9 and _is_origin(origin, at)


def _is_origin(thing, at):
    if is_integer(thing):
        return 0 <= thing < at
    return isinstance(thing, str) and thing in ("here", "late")


def _is_behind_late(rows, at):
    """Return whether an earlier row of the key of this one is not here from the beginning."""
    key = rows[at][0]
    return any([earlier[0] == key and earlier[2] != "here" for earlier in rows[:at]])


def _deeds_of(rules, rows, workers, may):
    deeds = [(word, w) for word in may for w in range(workers)]
    deeds.extend([("part", w) for w in range(workers)])
    deeds.extend([("put", at) for at, row in enumerate(rows) if row[2] == "late"])
    if rules.slack > 0 and rules.checked:
        deeds.extend([("slow", w) for w in range(workers)])
    return deeds + [("tick",)]
