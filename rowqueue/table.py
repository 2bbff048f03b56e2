"""The rows of a queue at a time, and what each deed of a transaction does to them."""

from rowqueue.bench import WORDS_OF_PLACES
from rowqueue.choice import batch
from rowqueue.errors import Known, NoOrigin, NoRow, Stale, TooMany

MOST_ROWS = 200


class Table:
    """Rows by their names, in their order. A record is replaced, never changed: copies share it."""

    def __init__(self, setting, rules, records, now):
        self._setting = setting
        self.rules = rules
        self.records = dict(records)
        self.now = now

    def moved_to(self, now):
        """Return a table of its own at a time, in which the holds that end by then have ended."""
        table = Table(self._setting, self.rules, self.records, now)
        held = [name for name in self.records if table.is_held(name)]
        ends = [(name, self.records[name]["time"]) for name in held]
        for name, end in ends:
            if end is not None and end <= now:
                table.fall_back(name, end)
        return table

    def record(self, name):
        if name not in self.records:
            raise NoRow(name)
        return self.records[name]

    def alter(self, name, **parts):
        """Give a row other parts in the place of those with their words."""
        record = self.records[name]
        self.records[name] = {**record, **parts}

    def is_held(self, name):
        return self.records[name]["place"] == "held"

    def is_valid(self, name, token):
        return self.is_held(name) and self.records[name]["token"] == token

    def fall_back(self, name, time):
        """Let a row fall back at a time, and return whether it is dead by this."""
        attempts = self.records[name]["attempts"]
        if 0 < self.rules.most_tries <= attempts:
            self.alter(name, place="dead", time=None)
            return True
        pauses = self.rules.pauses
        pause = pauses[-1] if attempts >= 2 else pauses[0]
        self.alter(name, place="ready", time=time + pause)
        return False

    def picked(self, many):
        """Return the names of the rows that a take of up to many rows takes now."""
        records = list(self.records.values())
        rows = [(record["key"], record["weight"], record["origin"]) for record in records]
        view = [self._word_of(record) for record in records]
        names = list(self.records)
        return [names[at] for at in batch(rows, self._setting, view, many)]

    def _word_of(self, record):
        if record["place"] == "ready":
            return "free" if record["time"] <= self.now else "busy"
        return WORDS_OF_PLACES[record["place"]]


def do_deed(table, deed):
    """Do a deed, and return its result."""
    act = DEEDS[deed[0]]
    return act(table, deed)


def _put(table, deed):
    _, name, key, weight, due, origin = deed
    if name in table.records:
        raise Known(name)
    if len(table.records) >= MOST_ROWS:
        raise TooMany(MOST_ROWS)
    if origin is not None and origin not in table.records:
        raise NoOrigin(origin)
    table.records[name] = {
        "key": key,
        "weight": weight,
        "origin": origin,
        "place": "ready" if origin is None else "yet",
        "time": max(table.now, due) if origin is None else None,
        "attempts": 0,
        "token": 0,
        "effects": 0,
        "last": None,
    }


def _take(table, deed):
    rules = table.rules
    end = table.now + rules.term if rules.term > 0 else None
    taken = []
    for name in table.picked(deed[1]):
        record = table.records[name]
        token = record["token"] + 1
        attempts = record["attempts"] + 1 if rules.by_take else record["attempts"]
        table.alter(name, place="held", time=end, token=token, attempts=attempts)
        taken.append((name, token))
    return taken


def _look_at(table, deed):
    """Look at the token of a deed on a row, as far as the fence asks for it."""
    _, name, token = deed
    table.record(name)
    if table.rules.fenced and not table.is_valid(name, token):
        raise Stale(name)
    return name


def _finish(table, deed):
    name = _look_at(table, deed)
    table.alter(name, place="done", time=None)


def _fail(table, deed):
    name = _look_at(table, deed)
    if not table.is_held(name):
        return False
    if not table.rules.by_take:
        table.alter(name, attempts=table.records[name]["attempts"] + 1)
    return table.fall_back(name, table.now)


def _give(table, deed):
    name = _look_at(table, deed)
    if table.is_held(name):
        table.alter(name, place="ready", time=table.now)


def _more(table, deed):
    table.record(deed[1])
    if table.rules.term == 0:
        return None
    name = _look_at(table, deed)
    if not table.is_held(name):
        raise Stale(name)
    end = table.now + table.rules.term
    table.alter(name, time=end)
    return end


def _lost(table, deed):
    _, name, token = deed
    table.record(name)
    if not table.rules.linked or not table.is_valid(name, token):
        return False
    return table.fall_back(name, table.now)


def _effect(table, deed):
    name = deed[1]
    record = table.record(name)
    if _remembers(table, record):
        return False
    table.alter(name, effects=record["effects"] + 1, last=table.now)
    return True


def _remembers(table, record):
    """Return whether the receiver remembers a row."""
    if record["effects"] == 0:
        return False
    return table.rules.forever or table.now < record["last"] + table.rules.recall


def _follow(table, deed):
    origin = deed[1]
    table.record(origin)
    records = table.records
    coming = [name for name in records if records[name]["origin"] == origin and records[name]["place"] == "yet"]
    for name in coming:
        table.alter(name, place="ready", time=table.now)
    return coming


DEEDS = {
    "put": _put,
    "take": _take,
    "finish": _finish,
    "fail": _fail,
    "give": _give,
    "more": _more,
    "lost": _lost,
    "effect": _effect,
    "follow": _follow,
}
