"""What [90] to [92] ask of a log, from the moves of a search over the second machine.

It goes from set to set, and from weaving to weaving, without the pairs in the order of their meeting.
"""

import collections

from rowqueue.machine import is_state
from tests.cases import oracle_of


class Telling:
    """The weavings of a search that show a log."""

    def __init__(self, search, log):
        self.search, self.log = search, log
        self.first = (0, search.oracle.start())
        self.known = {}

    def ways(self, pair):
        shown, state = pair
        for deed, answer, after in self.search.moves[state]:
            if answer == ("none",):
                continue
            if answer == ():
                yield deed, (shown, after)
            elif self.log[shown : shown + 1] == [answer]:
                yield deed, (shown + 1, after)

    def sets(self):
        """For each number of items that a weaving shows the states behind it."""
        found = []
        states = {self.first[1]}
        while states and len(found) <= len(self.log):
            shown = len(found)
            found.append(states)
            size = 0
            while size < len(states):
                size = len(states)
                states |= {after for state in states for _, (many, after) in self.ways((shown, state)) if many == shown}
            behind = [pair for state in states for _, pair in self.ways((shown, state))]
            states = {after for many, after in behind if many == shown + 1}
        return found

    def pairs(self):
        return sum(len(states) for states in self.sets())

    def least(self):
        """The least of the shortest weavings that show the log, of which there must be one."""
        best = {self.first: []}
        while True:
            shown = [weaving for (many, _), weaving in best.items() if many == len(self.log)]
            if shown:
                return min(shown)
            later = {}
            for pair, weaving in best.items():
                for deed, after in self.ways(pair):
                    later[after] = min(later.get(after, weaving + [deed]), weaving + [deed])
            best = later

    def many(self, deeds):
        """How many weavings of so many deeds show the log, counted from the first state on."""
        counts = collections.Counter([self.first])
        for _ in range(deeds):
            later = collections.Counter()
            for pair, number in counts.items():
                for _, after in self.ways(pair):
                    later[after] += number
            counts = later
        return sum(number for (shown, _), number in counts.items() if shown == len(self.log))

    def behind(self, pair, deeds):
        """How many weavings of so many deeds show the rest of the log from a pair on."""
        if (pair, deeds) not in self.known:
            ways = [after for _, after in self.ways(pair)] if deeds else []
            ends = int(deeds == 0 and pair[0] == len(self.log))
            self.known[pair, deeds] = ends + sum(self.behind(after, deeds - 1) for after in ways)
        return self.known[pair, deeds]

    def number_of(self, weaving):
        """How many weavings that show the log are less than this one, and have as many deeds."""
        number, pair = 0, self.first
        for at, deed in enumerate(weaving):
            ways = dict(self.ways(pair))
            number += sum(self.behind(ways[one], len(weaving) - at - 1) for one in ways if one < deed)
            pair = ways[deed]
        return number


def shown_by(oracle, weaving):
    """The log that a weaving shows, or None if it shows none."""
    state, log = oracle.start(), []
    for deed in weaving:
        state, answer = oracle.step(state, deed)
        if answer == ("none",):
            return None
        log += [answer] * (answer != ())
    return log


def log_by_lot(chance, search, many):
    """The log of a weaving that is drawn by lot, of at most so many items."""
    state, log = search.oracle.start(), []
    for _ in range(2 * many):
        moves = [move for move in search.moves[state] if move[1] != ("none",)]
        deed, answer, state = chance.choice(moves)
        log += [answer] * (answer != () and len(log) < many)
    return log


def changed_by_lot(chance, log):
    """The log with one item put otherwise, out, twice, or two exchanged."""
    found = list(log)
    at = chance.randrange(len(log))
    kind = chance.randrange(4)
    if kind == 0:
        word, _, number = found[at][0].partition(" ")
        others = ["take 0", "take 1", "effect 0", "finish 0", "stale", "late", "nothing", "put 0", "follow", word]
        found[at] = (chance.choice([one for one in others if one != found[at][0]]),)
    elif kind == 1:
        found.pop(at)
    elif kind == 2:
        found.insert(at, found[at])
    else:
        other = chance.randrange(len(log))
        found[at], found[other] = found[other], found[at]
    return found[:30]


def are_sets_there(scene, log, at, thing):
    """[91] again, with the second machine."""
    oracle = oracle_of(scene)
    if not isinstance(thing, list) or len(thing) != at + 1 or not all(isinstance(part, list) for part in thing):
        return False
    for part in thing:
        if not all(is_state(scene, state) for state in part) or len(set(part)) < len(part):
            return False
    if oracle.start() not in thing[0]:
        return False
    for k, part in enumerate(thing):
        for state in part:
            for after, answer in [oracle.step(state, deed) for deed in scene.deeds()]:
                if answer == () and after not in part:
                    return False
                if answer == log[k] and (k == at or after not in thing[k + 1]):
                    return False
    return True
