"""A desk: a book that is asked by lines of text."""

from rowqueue.book import Book
from rowqueue.errors import NoCommand, NoText
from rowqueue.kinds import is_name
from rowqueue.notation import read_transaction, show_log, show_parts

MANIES = ("1", "2", "3", "4", "5", "6", "7", "8")


class Desk:
    """A desk, which keeps a book."""

    def __init__(self, setting):
        self._book = Book(setting)

    def execute(self, line):
        """Do what a line says, and return the text of what comes of it."""
        if not isinstance(line, str):
            raise NoCommand()
        if line in LINES:
            act = LINES[line]
            return act(self._book)
        word, _, rest = line.partition(" ")
        if word in WORDS:
            ask = WORDS[word]
            return ask(self._book, rest)
        now, deeds = _read(line)
        return _show_results(self._book.do(now, deeds))


def _read(text):
    try:
        return read_transaction(text)
    except NoText:
        raise NoCommand() from None


def _back(book):
    book.back()
    return "ok"


def _again(book):
    book.again()
    return "ok"


def _time(book):
    return str(book.queue().time())


def _log(book):
    return show_log(book)


def _late(book, text):
    now, deeds = _read(text)
    return _show_results(book.late(now, deeds))


def _row(book, text):
    if not is_name(text):
        raise NoCommand()
    return show_parts(book.queue().row(text))


def _free(book, text):
    if text not in MANIES:
        raise NoCommand()
    return _show_list(book.queue().free(int(text)))


def _show_results(results):
    return "; ".join([_show_result(result) for result in results])


def _show_result(result):
    if result is None:
        return "ok"
    if isinstance(result, bool):
        return "yes" if result else "no"
    if isinstance(result, list):
        return _show_list(result)
    return str(result)


def _show_list(things):
    """Return the text of a list of names, or of rows that are taken."""
    if len(things) == 0:
        return "-"
    if isinstance(things[0], tuple):
        return ", ".join([show_parts(thing) for thing in things])
    return " ".join(things)


# The lines of one word, and the words of those that have more.
LINES = {"back": _back, "again": _again, "time": _time, "log": _log}
WORDS = {"late": _late, "row": _row, "free": _free}
