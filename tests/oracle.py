"""A second machine, written straight from [41] to [44], to compare the first one with.

It shares nothing with the package: it reads the lines itself, keeps rows and workers as dicts,
and does a transaction on a copy that is thrown away if a word refuses.
"""

import copy

DEFAULTS = {
    "order": "oldest",
    "skip": "yes",
    "hold": "2",
    "margin": "0",
    "slow": "0",
    "plan": "take effect finish",
    "fence": "yes",
    "tries": "ever",
    "count": "take",
    "pause": "0",
    "dead": "opens",
    "once": "no",
}


class Refused(Exception):
    pass


class Oracle:
    def __init__(self, lines, rows, workers=2, may=(), prompt=False):
        self.line = dict(DEFAULTS)
        for line in lines:
            word, value = line.split(" ", 1)
            self.line[word] = value
        self.scene_rows, self.many, self.may, self.prompt = rows, workers, may, prompt
        self.plan = [part.split("+") for part in self.line["plan"].split(" ")]
        self.timed = self.line["hold"].isdigit()
        self.hold = int(self.line["hold"]) if self.timed else 0
        self.trust = max(self.hold - int(self.line["margin"]), 0)
        self.slow = int(self.line["slow"])
        self.fence = self.line["fence"] == "yes"
        self.pauses = [int(part) for part in self.line["pause"].split(" ")]
        if self.line["tries"] != "ever":
            self.cap = int(self.line["tries"])
        else:
            self.cap = 2 if len(self.pauses) == 2 else 0

    def when(self, word):
        found = [at for at in range(len(self.plan)) if word in self.plan[at]]
        return found[0] if found else -1

    def start(self):
        places = ["ready" if origin == "here" else "yet" for _, _, origin in self.scene_rows]
        return tuple((place, 0, 0, 0, 0) for place in places), ((),) * self.many

    def load(self, state):
        self.rows = [dict(zip(("place", "ticks", "tries", "effects", "memory"), row)) for row in state[0]]
        self.hands = [dict(zip(("point", "row", "fresh", "own", "lag"), hand)) for hand in state[1]]
        self.answer = []

    def step(self, state, deed):
        self.load(state)
        getattr(self, "do_" + deed[0])(*deed[1:])
        return self.frozen(), tuple(self.answer)

    def frozen(self):
        rows = tuple(tuple(row.values()) for row in self.rows)
        return rows, tuple(tuple(hand.values()) for hand in self.hands)

    # What happens to rows and workers.

    def nobody_is_fresh(self, r):
        for hand in self.hands:
            if hand and hand["row"] == r:
                hand["fresh"] = False

    def put_row(self, r, place, ticks):
        self.rows[r]["place"], self.rows[r]["ticks"] = place, ticks

    def attempt(self, r):
        if self.rows[r]["tries"] < self.cap:
            self.rows[r]["tries"] += 1

    def falls_back(self, r):
        if self.line["tries"] != "ever" and self.rows[r]["tries"] == int(self.line["tries"]):
            self.put_row(r, "dead", 0)
            self.answer.append(f"dead {r}")
        elif self.rows[r]["tries"] < 2:
            self.put_row(r, "ready", self.pauses[0])
        else:
            self.put_row(r, "ready", self.pauses[-1])
        self.nobody_is_fresh(r)

    def trusts(self, hand):
        hand["own"] = hand["lag"] = 0
        if self.timed and self.when("check") >= hand["point"] and self.trust > 0:
            hand["own"], hand["lag"] = self.trust, self.slow

    def idle(self, w):
        self.hands[w] = {}

    # Which row a take takes.

    def word(self, r):
        place, ticks = self.rows[r]["place"], self.rows[r]["ticks"]
        if place == "ready":
            return "busy" if ticks else "free"
        return {"held": "busy", "dead": "dead", "yet": "away", "done": "away"}[place]

    def is_free(self, r):
        if self.word(r) != "free":
            return False
        if self.line["order"] != "key":
            return True
        earlier = [s for s in range(r) if self.scene_rows[s][0] == self.scene_rows[r][0]]
        barring = ["free", "busy"] + (["dead"] if self.line["dead"] == "closes" else [])
        return all(self.word(s) not in barring for s in earlier)

    def chosen(self):
        looked = list(range(len(self.rows)))
        if self.line["order"] == "weight":
            looked.sort(key=lambda r: -self.scene_rows[r][1])
        for r in looked:
            if self.is_free(r):
                return r
            if self.line["skip"] == "no" and self.word(r) in ("free", "busy"):
                return None
        return None

    def chosen_in(self, state):
        self.load(state)
        return self.chosen()

    # Deeds.

    def do_tick(self):
        if self.prompt:
            if any(not hand for hand in self.hands) and self.chosen() is not None:
                return
            if any(hand and not hand["fresh"] for hand in self.hands):
                return
        for r, row in enumerate(self.rows):
            if row["place"] == "ready" and row["ticks"] > 0:
                row["ticks"] -= 1
            elif row["place"] == "held" and self.timed:
                row["ticks"] -= 1
                if row["ticks"] == 0:
                    self.falls_back(r)
        for row in self.rows:
            row["memory"] -= row["memory"] > 0
        for hand in self.hands:
            if hand:
                hand["own"] -= hand["own"] > 0
                hand["lag"] = hand["lag"] if hand["own"] else 0

    def do_part(self, w):
        if not self.hands[w]:
            self.takes(w)
            return
        before = copy.deepcopy((self.rows, self.hands))
        try:
            self.goes_on(w)
        except Refused as refused:
            self.rows, self.hands = before
            self.answer = [str(refused)]
            self.idle(w)

    def takes(self, w):
        r = self.chosen()
        if r is None:
            self.answer.append("nothing")
            return
        self.put_row(r, "held", self.hold)
        if self.line["count"] == "take":
            self.attempt(r)
        self.nobody_is_fresh(r)
        self.hands[w] = {"point": 1, "row": r, "fresh": True, "own": 0, "lag": 0}
        self.trusts(self.hands[w])
        self.answer.append(f"take {r}")

    def goes_on(self, w):
        hand = self.hands[w]
        for word in self.plan[hand["point"]]:
            getattr(self, "word_" + word)(hand, hand["row"])
        hand["point"] += 1
        if hand["point"] == len(self.plan):
            self.idle(w)

    def word_check(self, hand, r):
        if self.timed and hand["own"] == 0:
            raise Refused("late")
        hand["own"] = hand["lag"] = 0

    def word_effect(self, hand, r):
        row = self.rows[r]
        if row["memory"] or (self.line["once"] == "ever" and row["effects"]):
            self.answer.append(f"again {r}")
            return
        row["effects"] = 1 if row["effects"] == 0 else 2
        row["memory"] = int(self.line["once"]) if self.line["once"].isdigit() else 0
        self.answer.append(f"effect {r}")

    def word_finish(self, hand, r):
        if self.fence and not hand["fresh"]:
            raise Refused("stale")
        self.put_row(r, "done", 0)
        self.nobody_is_fresh(r)
        self.answer.append(f"finish {r}")

    def word_follow(self, hand, r):
        said = False
        for s, (_, _, origin) in enumerate(self.scene_rows):
            if origin == r and self.rows[s]["place"] == "yet":
                self.put_row(s, "ready", 0)
                self.answer.append(f"follow {s}")
                said = True
        if not said:
            self.answer.append("follow")

    def can(self, word, w):
        """Whether the accident can come; if it is stale, the worker is idle behind this."""
        hand = self.hands[w]
        if word not in self.may or not hand or self.when("finish") < hand["point"]:
            self.answer.append("none")
            return False
        if word == "more" and not self.timed:
            self.answer.append("none")
            return False
        if self.fence and not hand["fresh"]:
            self.answer.append("stale")
            self.idle(w)
            return False
        return True

    def do_fail(self, w):
        if self.can("fail", w):
            r = self.hands[w]["row"]
            self.answer.append(f"fail {r}")
            self.idle(w)
            if self.rows[r]["place"] == "held":
                if self.line["count"] == "fail":
                    self.attempt(r)
                self.falls_back(r)

    def do_give(self, w):
        if self.can("give", w):
            r = self.hands[w]["row"]
            self.answer.append(f"give {r}")
            self.idle(w)
            if self.rows[r]["place"] == "held":
                self.put_row(r, "ready", 0)
                self.nobody_is_fresh(r)

    def do_more(self, w):
        if self.can("more", w):
            hand = self.hands[w]
            if self.rows[hand["row"]]["place"] != "held":
                self.answer.append("stale")
                self.idle(w)
                return
            self.rows[hand["row"]]["ticks"] = self.hold
            self.trusts(hand)
            self.answer.append(f"more {hand['row']}")

    def do_slow(self, w):
        hand = self.hands[w]
        if hand and hand["own"] > 0 and hand["lag"] > 0:
            hand["own"] += 1
            hand["lag"] -= 1

    def do_crash(self, w):
        hand = self.hands[w]
        if "crash" in self.may and hand:
            self.idle(w)
            if self.line["hold"] == "link" and hand["fresh"]:
                self.falls_back(hand["row"])

    def do_put(self, r):
        if self.scene_rows[r][2] == "late" and self.rows[r]["place"] == "yet":
            self.put_row(r, "ready", 0)
            self.answer.append(f"put {r}")
        else:
            self.answer.append("none")

    # Questions.

    def able(self, state, w):
        if not state[1][w]:
            return False
        point, r, fresh, own, _ = state[1][w]
        if point > self.when("effect"):
            return False
        words = [word for part in self.plan[point : self.when("effect") + 1] for word in part]
        late = "check" in words and self.timed and own == 0
        stale = "finish" in words and self.fence and not fresh
        return not late and not stale

    def all_deeds(self):
        """All deeds of the forms of [42], with the workers and the rows of the scene."""
        words = ["crash", "fail", "give", "more", "part", "slow"]
        deeds = [(word, w) for word in words for w in range(self.many)]
        return deeds + [("put", r) for r in range(len(self.scene_rows))] + [("tick",)]
