"""A second queue, written straight from [50] to [53], to compare the first one with.

It shares nothing with the package. It lets the time go on from the end of a hold to the end of the next
one, and keeps a copy of its rows that it goes back to if a deed raises an error.
"""

import copy

from tests.oracle import DEFAULTS


class Refused(Exception):
    """An error of the queue: the name of its class and its argument."""


class Ledger:
    def __init__(self, lines):
        self.line = dict(DEFAULTS)
        for line in lines:
            word, value = line.split(" ", 1)
            self.line[word] = value
        self.now = 0
        self.rows = []

    def number(self, word):
        return int(self.line[word]) if self.line[word].isdigit() else None

    def do(self, now, deeds):
        if now < self.now:
            raise Refused("Past", now)
        self.pass_to(now)
        before = copy.deepcopy(self.rows)
        try:
            return [getattr(self, "do_" + deed[0])(*deed[1:]) for deed in deeds]
        except Refused:
            self.rows = before
            raise

    def pass_to(self, now):
        while self.now < now:
            ends = [row["time"] for row in self.rows if row["place"] == "held" and row["time"] is not None]
            # Nothing happens ahead of the next end of a hold.
            self.now = min([now] + ends)
            for row in self.rows:
                if row["place"] == "held" and row["time"] == self.now:
                    self.fall(row)

    def fall(self, row):
        if self.number("tries") is not None and row["attempts"] >= self.number("tries"):
            row["place"], row["time"] = "dead", None
            return True
        pauses = [int(part) for part in self.line["pause"].split(" ")]
        row["place"], row["time"] = "ready", self.now + (pauses[0] if row["attempts"] < 2 else pauses[-1])
        return False

    def find(self, name):
        for row in self.rows:
            if row["name"] == name:
                return row
        raise Refused("NoRow", name)

    def is_valid(self, row, token):
        return row["place"] == "held" and row["token"] == token

    def fence(self, row, token):
        if self.line["fence"] == "yes" and not self.is_valid(row, token):
            raise Refused("Stale", row["name"])

    def do_put(self, name, key, weight, due, origin):
        names = [row["name"] for row in self.rows]
        if name in names:
            raise Refused("Known", name)
        if len(names) >= 200:
            raise Refused("TooMany", 200)
        if origin is not None and origin not in names:
            raise Refused("NoOrigin", origin)
        row = {"name": name, "key": key, "weight": weight, "origin": origin, "last": None}
        row |= {"place": "yet", "time": None, "attempts": 0, "token": 0, "effects": 0}
        if origin is None:
            row["place"], row["time"] = "ready", max(self.now, due)
        self.rows.append(row)

    def do_take(self, many):
        taken = self.taken(many)
        for row in taken:
            row["place"], row["token"] = "held", row["token"] + 1
            row["time"] = None if self.number("hold") is None else self.now + self.number("hold")
            row["attempts"] += self.line["count"] == "take"
        return [(row["name"], row["token"]) for row in taken]

    def taken(self, many):
        """The rows that a take takes; each that is taken is busy from then on."""
        looked = list(self.rows)
        if self.line["order"] == "weight":
            looked.sort(key=lambda row: -row["weight"])
        found = []
        for row in looked:
            if len(found) == many:
                break
            free = row["place"] == "ready" and row["time"] <= self.now
            if free and not self.is_barred(row):
                found.append(row)
            elif row["place"] in ("ready", "held") and self.line["skip"] == "no":
                break
        return found

    def is_barred(self, row):
        if self.line["order"] != "key":
            return False
        ahead = self.rows[: [one is row for one in self.rows].index(True)]
        places = [one["place"] for one in ahead if one["key"] == row["key"]]
        shut = "dead" in places and self.line["dead"] == "closes"
        return "ready" in places or "held" in places or shut

    def do_finish(self, name, token):
        row = self.find(name)
        self.fence(row, token)
        row["place"], row["time"] = "done", None

    def do_fail(self, name, token):
        row = self.find(name)
        self.fence(row, token)
        if row["place"] != "held":
            return False
        row["attempts"] += self.line["count"] == "fail"
        return self.fall(row)

    def do_give(self, name, token):
        row = self.find(name)
        self.fence(row, token)
        if row["place"] == "held":
            row["place"], row["time"] = "ready", self.now

    def do_more(self, name, token):
        row = self.find(name)
        if self.number("hold") is None:
            return None
        self.fence(row, token)
        if row["place"] != "held":
            raise Refused("Stale", name)
        row["time"] = self.now + self.number("hold")
        return row["time"]

    def do_lost(self, name, token):
        row = self.find(name)
        return self.line["hold"] == "link" and self.is_valid(row, token) and self.fall(row)

    def do_effect(self, name):
        row = self.find(name)
        if self.line["once"] == "ever" and row["effects"]:
            return False
        if self.number("once") is not None and row["last"] is not None:
            if self.now < row["last"] + self.number("once"):
                return False
        row["effects"] += 1
        row["last"] = self.now
        return True

    def do_follow(self, name):
        self.find(name)
        coming = [row for row in self.rows if row["origin"] == name and row["place"] == "yet"]
        for row in coming:
            row["place"], row["time"] = "ready", self.now
        return [row["name"] for row in coming]

    # Questions.

    def row(self, name):
        row = self.find(name)
        return row["place"], row["time"], row["attempts"], row["token"], row["effects"]

    def next_time(self):
        times = [row["time"] for row in self.rows if row["place"] in ("ready", "held") and row["time"] is not None]
        return min((time for time in times if time > self.now), default=None)
