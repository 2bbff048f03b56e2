"""The texts of transactions and of logs."""

from rowqueue.book import Book
from rowqueue.errors import NoText, QueueError, Stopped
from rowqueue.kinds import is_name

MOST_DEEDS = 20
MOST_DIGITS = 40

# The kinds of the parts of a deed, behind its word.
FORMS = {
    "put": ("name", "name", "weight", "time", "origin"),
    "take": ("many",),
    "finish": ("name", "token"),
    "fail": ("name", "token"),
    "give": ("name", "token"),
    "more": ("name", "token"),
    "lost": ("name", "token"),
    "effect": ("name",),
    "follow": ("name",),
}

# The least and the greatest number of each kind that is a number.
BOUNDS = {
    "weight": (0, 9),
    "many": (1, 8),
    "time": (0, 10**18),
    "token": (0, 10**40 - 1),
}


def show_transaction(transaction):
    """Return the text of a transaction."""
    now, deeds = transaction
    texts = "; ".join([show_parts(deed) for deed in deeds])
    return f"{now}: {texts}"


def show_parts(parts):
    """Return the texts of some parts, with one blank between each two."""
    return " ".join(["-" if part is None else str(part) for part in parts])


def show_log(book):
    """Return the text of the log of a book."""
    return "".join([show_transaction(transaction) + "\n" for transaction in book.log()])


def read_transaction(text):
    """Return the transaction that a text writes; any value that writes none raises NoText."""
    if not isinstance(text, str):
        raise NoText()
    head, _, rest = text.partition(": ")
    parts = rest.split("; ")
    if len(parts) > MOST_DEEDS:
        raise NoText()
    return (_read_part("time", head), [_read_deed(part) for part in parts])


def _read_deed(text):
    parts = text.split(" ")
    word = parts[0]
    if word not in FORMS or len(parts) != len(FORMS[word]) + 1:
        raise NoText()
    return (word,) + tuple([_read_part(kind, parts[at + 1]) for at, kind in enumerate(FORMS[word])])


def _read_part(kind, text):
    if kind in BOUNDS:
        low, high = BOUNDS[kind]
        return _read_number(text, low, high)
    if kind == "origin" and text == "-":
        return None
    if not is_name(text):
        raise NoText()
    return text


def _read_number(text, low, high):
    if not 1 <= len(text) <= MOST_DIGITS or not all(["0" <= sign <= "9" for sign in text]):
        raise NoText()
    number = int(text)
    if str(number) != text or not low <= number <= high:
        raise NoText()
    return number


def read_log(setting, text):
    """Return the book in which the transactions of a text were done."""
    if not isinstance(text, str):
        raise Stopped(0)
    book = Book(setting)
    lines = text.split("\n")
    # Behind the last line feed stands no line.
    rest = lines.pop()
    for at, line in enumerate(lines):
        try:
            now, deeds = read_transaction(line)
            book.do(now, deeds)
        except QueueError:
            raise Stopped(at) from None
    if rest != "":
        raise Stopped(len(lines))
    return book
