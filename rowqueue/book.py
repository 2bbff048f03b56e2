"""A book: the transactions of a queue, which may be put in late, taken back, and done again."""

from rowqueue.errors import Nothing, QueueError, Stopped, TooMany, Wrong
from rowqueue.queue import Queue
from rowqueue.settings import Setting

MOST_TRANSACTIONS = 100


class Book:
    """A book. It never changes its log and its queue: it exchanges both, so that it can go back to them."""

    def __init__(self, setting):
        if not isinstance(setting, Setting):
            raise Wrong(0)
        self._setting = setting
        self._log = ()
        self._queue = Queue(setting)
        # Tuples of a log and a queue: those to which back leads, and those that were taken back.
        self._earlier = []
        self._later = []

    def __len__(self):
        return len(self._log)

    def __eq__(self, other):
        return isinstance(other, Book) and self._setting == other._setting and self._log == other._log

    def do(self, now, deeds):
        """Do a transaction, and return its results."""
        self._refuse_too_many()
        queue = self._queue.copied()
        results = queue.do(now, deeds)
        self._go_on(self._log + ((now, tuple(deeds)),), queue)
        return results

    def late(self, now, deeds):
        """Put a transaction in at its time, do those behind it again, and return its results."""
        self._refuse_too_many()
        ahead = self._log_until(now)
        log = ahead + ((now, tuple(deeds)),) + self._log[len(ahead) :]
        queue, results = _played(self._setting, log)
        self._go_on(log, queue)
        return results[len(ahead)]

    def back(self):
        """Take the last do or late back."""
        if len(self._earlier) == 0:
            raise Nothing()
        self._later.append((self._log, self._queue))
        self._log, self._queue = self._earlier.pop()

    def again(self):
        """Do again what was taken back last."""
        if len(self._later) == 0:
            raise Nothing()
        self._earlier.append((self._log, self._queue))
        self._log, self._queue = self._later.pop()

    def log(self):
        """Return the transactions."""
        return [(now, list(deeds)) for now, deeds in self._log]

    def queue(self):
        """Return the queue behind all transactions."""
        return self._queue.copied()

    def queue_at(self, now):
        """Return the queue at a time, behind the transactions up to then."""
        queue, _ = _played(self._setting, self._log_until(now))
        # Without a deed only the time goes on.
        queue.do(now, [])
        return queue

    def copied(self):
        """Return a book that goes on independently."""
        book = Book(self._setting)
        book._log = self._log
        book._queue = self._queue
        book._earlier = list(self._earlier)
        book._later = list(self._later)
        return book

    def _refuse_too_many(self):
        if len(self._log) >= MOST_TRANSACTIONS:
            raise TooMany(MOST_TRANSACTIONS)

    def _log_until(self, now):
        """Return the transactions with a time of at most now."""
        return tuple([transaction for transaction in self._log if transaction[0] <= now])

    def _go_on(self, log, queue):
        """Go on with another log and its queue; what was taken back cannot be done again from now on."""
        self._earlier.append((self._log, self._queue))
        self._later = []
        self._log = log
        self._queue = queue


def _played(setting, log):
    """Return the queue behind a log, and the results of each of its transactions."""
    queue = Queue(setting)
    results = []
    for at, (now, deeds) in enumerate(log):
        try:
            results.append(queue.do(now, list(deeds)))
        except QueueError:
            raise Stopped(at) from None
    return (queue, results)
