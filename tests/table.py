"""A queue with absolute times and tokens, as [52] tells it, and workers who go by it, as [5] tells it.

The machine with ticks left is compared with it. It shares nothing with the package.
"""

import copy

from tests.oracle import Oracle


class Stale(Exception):
    pass


class Table:
    """Rows with the times at which they become free, or at which their holds end."""

    def __init__(self, line):
        self.line = line
        self.now = 0
        self.rows = []

    def number(self, word):
        return int(self.line[word]) if self.line[word].isdigit() else None

    def put(self, r, key, weight, origin):
        place = "ready" if origin is None else "yet"
        row = {"r": r, "key": key, "weight": weight, "origin": origin, "place": place, "time": self.now}
        self.rows.append(row | {"attempts": 0, "token": 0, "effects": 0, "last": None})

    def row(self, r):
        return [row for row in self.rows if row["r"] == r][0]

    def pass_to(self, now):
        """Let the time go on; return the rows that die."""
        self.now = now
        timed = self.number("hold") is not None
        over = [row for row in self.rows if row["place"] == "held" and timed and row["time"] <= now]
        return sorted(row["r"] for row in over if self.fall_back(row, row["time"]))

    def fall_back(self, row, time):
        tries = self.number("tries")
        if tries is not None and row["attempts"] >= tries:
            row["place"] = "dead"
            return True
        pauses = [int(part) for part in self.line["pause"].split(" ")]
        row["place"], row["time"] = "ready", time + (pauses[-1] if row["attempts"] >= 2 else pauses[0])
        return False

    def is_open(self, row):
        return row["place"] in ("ready", "held")

    def is_barred(self, row):
        if self.line["order"] != "key":
            return False
        earlier = [other for other in self.rows[: self.rows.index(row)] if other["key"] == row["key"]]
        shut = self.line["dead"] == "closes" and any(other["place"] == "dead" for other in earlier)
        return shut or any(self.is_open(other) for other in earlier)

    def take(self):
        rows = self.rows
        if self.line["order"] == "weight":
            rows = sorted(rows, key=lambda row: -row["weight"])
        for row in rows:
            free = row["place"] == "ready" and row["time"] <= self.now
            if free and not self.is_barred(row):
                return self.hold(row)
            if self.is_open(row) and self.line["skip"] == "no":
                return None
        return None

    def hold(self, row):
        row["place"], row["time"] = "held", self.now + (self.number("hold") or 0)
        row["token"] += 1
        row["attempts"] += self.line["count"] == "take"
        return row["r"], row["token"]

    def is_valid(self, r, token):
        return self.row(r)["place"] == "held" and self.row(r)["token"] == token

    def look_at(self, r, token):
        if self.line["fence"] == "yes" and not self.is_valid(r, token):
            raise Stale()

    def finish(self, r, token):
        self.look_at(r, token)
        self.row(r)["place"] = "done"

    def fail(self, r, token):
        self.look_at(r, token)
        row = self.row(r)
        if row["place"] != "held":
            return False
        row["attempts"] += self.line["count"] == "fail"
        return self.fall_back(row, self.now)

    def give(self, r, token):
        self.look_at(r, token)
        if self.row(r)["place"] == "held":
            self.row(r)["place"], self.row(r)["time"] = "ready", self.now

    def more(self, r, token):
        self.look_at(r, token)
        if self.row(r)["place"] != "held":
            raise Stale()
        self.row(r)["time"] = self.now + self.number("hold")

    def lost(self, r, token):
        if self.line["hold"] == "link" and self.is_valid(r, token):
            return self.fall_back(self.row(r), self.now)
        return False

    def effect(self, r):
        row, once = self.row(r), self.number("once")
        if self.line["once"] == "ever" and row["effects"] > 0:
            return False
        if once is not None and row["last"] is not None and self.now < row["last"] + once:
            return False
        row["effects"] += 1
        row["last"] = self.now
        return True

    def follow(self, r):
        coming = [row for row in self.rows if row["origin"] == r and row["place"] == "yet"]
        for row in coming:
            row["place"], row["time"] = "ready", self.now
        return [row["r"] for row in coming]


class Shop:
    """A table and its workers, who answer as the machine does."""

    def __init__(self, lines, rows, workers, may):
        self.plain = Oracle(lines, rows, workers, may)
        self.table = Table(self.plain.line)
        for r, (key, weight, origin) in enumerate(rows):
            if origin != "late":
                self.table.put(r, key, weight, None if origin == "here" else origin)
        self.workers = [None] * workers

    def do(self, deed):
        return tuple(getattr(self, "do_" + deed[0])(*deed[1:]))

    def do_put(self, r):
        key, weight, origin = self.plain.scene_rows[r]
        if origin != "late" or any(row["r"] == r for row in self.table.rows):
            return ["none"]
        self.table.put(r, key, weight, None)
        return [f"put {r}"]

    def do_tick(self):
        dead = self.table.pass_to(self.table.now + 1)
        for worker in self.workers:
            if worker:
                worker["age"] += 1
        return [f"dead {r}" for r in dead]

    def do_part(self, w):
        if self.workers[w] is None:
            return self.take(w)
        before = copy.deepcopy(self.table.rows)
        worker = self.workers[w]
        words = self.plain.plan[worker["point"]]
        answer = []
        for word in words:
            said = self.word(word, worker)
            if said in (["late"], ["stale"]):
                self.table.rows = before
                self.workers[w] = None
                return said
            answer += said
        worker["point"] += 1
        if worker["point"] == len(self.plain.plan):
            self.workers[w] = None
        return answer

    def take(self, w):
        taken = self.table.take()
        if taken is None:
            return ["nothing"]
        self.workers[w] = {"point": 1, "r": taken[0], "token": taken[1], "age": 0, "behind": 0}
        return [f"take {taken[0]}"]

    def is_late(self, worker):
        return self.plain.timed and worker["age"] >= self.plain.trust

    def word(self, word, worker):
        r = worker["r"]
        if word == "check":
            return ["late"] if self.is_late(worker) else []
        if word == "effect":
            return [f"effect {r}" if self.table.effect(r) else f"again {r}"]
        if word == "follow":
            return [f"follow {s}" for s in self.table.follow(r)] or ["follow"]
        try:
            self.table.finish(r, worker["token"])
        except Stale:
            return ["stale"]
        return [f"finish {r}"]

    def accident(self, word, w):
        worker = self.workers[w]
        if word not in self.plain.may or not worker or self.plain.when("finish") < worker["point"]:
            return ["none"]
        if word == "more" and not self.plain.timed:
            return ["none"]
        try:
            died = getattr(self.table, word)(worker["r"], worker["token"])
        except Stale:
            self.workers[w] = None
            return ["stale"]
        if word == "more":
            worker["age"] = worker["behind"] = 0
        else:
            self.workers[w] = None
        return [f"{word} {worker['r']}"] + [f"dead {worker['r']}"] * bool(died)

    def do_fail(self, w):
        return self.accident("fail", w)

    def do_give(self, w):
        return self.accident("give", w)

    def do_more(self, w):
        return self.accident("more", w)

    def do_slow(self, w):
        worker = self.workers[w]
        checks = self.plain.timed and worker and self.plain.when("check") >= worker["point"]
        if checks and not self.is_late(worker) and worker["behind"] < self.plain.slow:
            worker["age"] -= 1
            worker["behind"] += 1
        return []

    def do_crash(self, w):
        worker = self.workers[w]
        if "crash" not in self.plain.may or not worker:
            return []
        self.workers[w] = None
        return [f"dead {worker['r']}"] * self.table.lost(worker["r"], worker["token"])

    def state(self):
        """What the state of the machine must be."""
        rows = []
        for r in range(len(self.plain.scene_rows)):
            there = [row for row in self.table.rows if row["r"] == r]
            rows.append(self.row_state(there[0]) if there else ("yet", 0, 0, 0, 0))
        return tuple(rows), tuple(self.worker_state(worker) for worker in self.workers)

    def row_state(self, row):
        timed = row["place"] == "ready" or (row["place"] == "held" and self.plain.timed)
        ticks = max(row["time"] - self.table.now, 0) if timed else 0
        memory = 0
        if self.table.number("once") is not None and row["last"] is not None:
            memory = max(row["last"] + self.table.number("once") - self.table.now, 0)
        return row["place"], ticks, min(row["attempts"], self.plain.cap), min(row["effects"], 2), memory

    def worker_state(self, worker):
        if not worker:
            return ()
        own = lag = 0
        if self.plain.timed and self.plain.when("check") >= worker["point"]:
            own = max(self.plain.trust - worker["age"], 0)
            lag = self.plain.slow - worker["behind"] if own else 0
        fresh = self.table.is_valid(worker["r"], worker["token"])
        return worker["point"], worker["r"], fresh, own, lag
