"""The place where a deed is done: a state whose rows and workers can be exchanged."""

from rowqueue.choice import chosen, is_barred

IDLE = ()
WORDS_OF_PLACES = {"yet": "away", "held": "busy", "done": "away", "dead": "dead"}


def free_row(scene, rows):
    """Return the row that a take takes from the rows of a state, or None."""
    return chosen(scene.rows(), scene.setting, words_of(rows))


def is_free(scene, rows, r):
    """Return whether a row is free among the rows of a state."""
    view = words_of(rows)
    return view[r] == "free" and not is_barred(scene.rows(), scene.setting, view, r)


def words_of(rows):
    """Return the view of the rows of a state: one word for each."""
    return [_word_of(row) for row in rows]


def _word_of(row):
    if row[0] == "ready":
        return "free" if row[1] == 0 else "busy"
    return WORDS_OF_PLACES[row[0]]


class Bench:
    """A state on which one deed is done. Its lists are its own."""

    def __init__(self, scene, state):
        self.scene = scene
        self.rules = scene.rules
        self.table = list(state[0])
        self.crew = list(state[1])

    def result(self):
        """Return the state that has been made."""
        return (tuple(self.table), tuple(self.crew))

    def is_held(self, r):
        return self.table[r][0] == "held"

    def dismiss(self, w):
        """Let a worker be idle."""
        self.crew[w] = IDLE

    def release(self, w):
        """Let a worker that has a row be idle, and return its row."""
        r = self.crew[w][1]
        self.dismiss(w)
        return r

    def set_clock(self, w, own, lag):
        point, r, fresh, _, _ = self.crew[w]
        self.crew[w] = (point, r, fresh, own, lag)

    def move(self, r, place, ticks):
        """Give a row a place and its ticks there, whoever is fresh on it."""
        _, _, tries, effects, memory = self.table[r]
        self.table[r] = (place, ticks, tries, effects, memory)

    def take_away(self, r, place, ticks):
        """Move a row, so that no worker is fresh on it any more."""
        self.move(r, place, ticks)
        for w, hand in enumerate(list(self.crew)):
            if hand != IDLE and hand[1] == r:
                self.crew[w] = (hand[0], r, False, hand[3], hand[4])

    def count_try(self, r):
        place, ticks, tries, effects, memory = self.table[r]
        self.table[r] = (place, ticks, min(tries + 1, self.rules.kept_tries), effects, memory)

    def fall_back(self, r):
        """Let a row fall back, and return the strings that tell of its death."""
        tries = self.table[r][2]
        if 0 < self.rules.most_tries <= tries:
            self.take_away(r, "dead", 0)
            return (f"dead {r}",)
        pauses = self.rules.pauses
        self.take_away(r, "ready", pauses[-1] if tries >= 2 else pauses[0])
        return ()
