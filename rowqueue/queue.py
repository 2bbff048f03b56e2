"""A queue: rows by names, with times and tokens."""

from rowqueue.errors import Past
from rowqueue.rules import Rules
from rowqueue.table import Table, do_deed


class Queue:
    """A queue. Its table is exchanged for another one, so that copies may share it."""

    def __init__(self, setting):
        self._setting = setting
        self._table = Table(setting, Rules(setting), {}, 0)

    def __len__(self):
        return len(self._table.records)

    def __contains__(self, thing):
        return isinstance(thing, str) and thing in self._table.records

    def do(self, now, deeds):
        """Do a transaction, and return the results of its deeds."""
        if now < self._table.now:
            raise Past(now)
        self._table = self._table.moved_to(now)
        # If a deed raises an error, all deeds are undone: they are done on a table of their own.
        table = self._table.moved_to(now)
        results = [do_deed(table, deed) for deed in deeds]
        self._table = table
        return results

    def time(self):
        """Return the time."""
        return self._table.now

    def names(self):
        """Return the names of the rows, in their order."""
        return list(self._table.records)

    def row(self, name):
        """Return the place of a row, its time, and its numbers of attempts, takes and effects."""
        record = self._table.record(name)
        return (record["place"], record["time"], record["attempts"], record["token"], record["effects"])

    def free(self, many):
        """Return the names of the rows that a take of up to many would take now."""
        return self._table.picked(many)

    def next_time(self):
        """Return the next time at which a hold ends or a ready row becomes free, or None."""
        times = [record["time"] for record in self._table.records.values() if record["time"] is not None]
        return min([time for time in times if time > self._table.now], default=None)

    def copied(self):
        """Return a queue that goes on independently."""
        queue = Queue(self._setting)
        queue._table = self._table
        return queue
