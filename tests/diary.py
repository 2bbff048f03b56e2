"""A second book, to compare the first one with: it plays all its transactions anew for each question.

It shares nothing with the package. It keeps what was asked of it, not what came of it.
"""

from tests.ledger import Ledger, Refused


class Diary:
    def __init__(self, lines, done=(), undone=()):
        self.lines = lines
        self.done, self.undone = list(done), list(undone)

    def copied(self):
        return Diary(self.lines, self.done, self.undone)

    def log(self):
        log = []
        for word, now, deeds in self.done:
            log.insert(len(log) if word == "do" else behind(log, now), (now, deeds))
        return log

    def play(self, log):
        """The ledger behind a log, and the results of its transactions."""
        ledger, results = Ledger(self.lines), []
        for at, (now, deeds) in enumerate(log):
            try:
                results.append(ledger.do(now, deeds))
            except Refused as refused:
                refused.at = at
                raise
        return ledger, results

    def do(self, now, deeds):
        if len(self.done) == 100:
            raise Refused("TooMany", 100)
        _, results = self.play([*self.log(), (now, deeds)])
        self.done.append(("do", now, list(deeds)))
        self.undone = []
        return results[-1]

    def late(self, now, deeds):
        if len(self.done) == 100:
            raise Refused("TooMany", 100)
        log = self.log()
        at = behind(log, now)
        try:
            _, results = self.play([*log[:at], (now, deeds), *log[at:]])
        except Refused as refused:
            raise Refused("Stopped", refused.at) from None
        self.done.append(("late", now, list(deeds)))
        self.undone = []
        return results[at]

    def back(self):
        if not self.done:
            raise Refused("Nothing")
        self.undone.append(self.done.pop())

    def again(self):
        if not self.undone:
            raise Refused("Nothing")
        self.done.append(self.undone.pop())

    def queue(self):
        return self.play(self.log())[0]

    def queue_at(self, now):
        ledger, _ = self.play([one for one in self.log() if one[0] <= now])
        ledger.pass_to(now)
        return ledger


def behind(log, now):
    """Behind how many transactions one of this time is put in."""
    return len([time for time, _ in log if time <= now])


def seen_in(queue):
    """All that a queue answers to questions."""
    names = queue.names()
    return [queue.time(), names, [queue.row(name) for name in names], queue.free(8), queue.next_time(), len(queue)]


def seen_in_ledger(ledger):
    names = [row["name"] for row in ledger.rows]
    free = [row["name"] for row in ledger.taken(8)]
    return [ledger.now, names, [ledger.row(name) for name in names], free, ledger.next_time(), len(names)]


def outcome(function, *things):
    """What a call returns, or the name of its error and the fields."""
    try:
        return function(*things)
    except Refused as refused:
        return refused.args
    except ValueError as error:
        return (type(error).__name__, *vars(error).values())
