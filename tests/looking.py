"""A second machine for workers that look at a row and mark it, written straight from [102].

It builds on the second machine, and shares nothing with the package.
"""

from tests.oracle import Oracle


class Looker(Oracle):
    def __init__(self, lines, rows, workers=2, may=(), late=False):
        super().__init__(lines, rows, workers, may)
        self.late = late
        self.seen = None

    def start(self):
        state = super().start()
        self.load(state)
        return (*state, self.words())

    def step(self, state, deed):
        self.load(state[:2])
        self.copy = state[2]
        places = [row["place"] for row in self.rows]
        if deed == ("copy",):
            self.do_copy()
        else:
            super_deed = getattr(self, "look_" + deed[0], None) or getattr(self, "do_" + deed[0])
            super_deed(*deed[1:])
        # Whatever changed the place of a row leaves no one fresh who has looked at it.
        for hand in self.hands:
            if hand and hand["point"] == 0 and self.rows[hand["row"]]["place"] != places[hand["row"]]:
                hand["fresh"] = False
        gone = [old == "free" and now != "free" for old, now in zip(self.copy, self.words())]
        copy = tuple("was" if is_gone else old for old, is_gone in zip(self.copy, gone))
        return (*self.frozen(), copy), tuple(self.answer)

    def words(self):
        """The words of the table, if there are copies of it."""
        return tuple(super(Looker, self).word(r) for r in range(len(self.rows))) if self.late else ()

    def word(self, r):
        """The word of a row for a worker that chooses one."""
        if self.seen is None:
            return super().word(r)
        return self.seen[r].replace("was", "free")

    def has_looked(self, w):
        return self.hands[w] and self.hands[w]["point"] == 0

    def do_copy(self):
        if self.late:
            self.copy = self.words()
        else:
            self.answer.append("none")

    def look_part(self, w):
        if not self.hands[w]:
            self.looks(w)
        elif self.has_looked(w):
            self.marks(w)
        else:
            self.do_part(w)

    def looks(self, w):
        self.seen = self.copy if self.late else None
        r = self.chosen()
        self.seen = None
        if r is None:
            self.answer.append("nothing")
            return
        fresh = not (self.late and self.copy[r] == "was")
        self.hands[w] = {"point": 0, "row": r, "fresh": fresh, "own": 0, "lag": 0}
        self.answer.append(f"look {r}")

    def marks(self, w):
        hand = self.hands[w]
        if self.fence and not hand["fresh"]:
            self.answer.append("stale")
            self.idle(w)
            return
        r = hand["row"]
        self.put_row(r, "held", self.hold)
        if self.line["count"] == "take":
            self.attempt(r)
        self.nobody_is_fresh(r)
        hand.update(point=1, fresh=True)
        self.trusts(hand)
        self.answer.append(f"mark {r}")

    def look_crash(self, w):
        if not self.has_looked(w):
            self.do_crash(w)
        elif "crash" in self.may:
            self.idle(w)

    def can(self, word, w):
        if self.has_looked(w):
            self.answer.append("none")
            return False
        return super().can(word, w)

    def able(self, state, w):
        return bool(state[1][w]) and state[1][w][0] > 0 and super().able(state[:2], w)

    def all_deeds(self):
        return super().all_deeds() + [("copy",)]
