"""Plans: the transactions of a worker, as a list of tuples of words, and as a text."""

from rowqueue.errors import NoPlan

FIRST = ("take",)
NEEDED = ("effect", "finish")
WORDS = ("check", "effect", "finish", "follow")


def is_plan(thing):
    """Return whether any value is a plan."""
    if not isinstance(thing, list) or not 2 <= len(thing) <= 5:
        return False
    if not all([_is_transaction(part) for part in thing]):
        return False
    return thing[0] == FIRST and _are_words([word for part in thing[1:] for word in part])


def _is_transaction(thing):
    return isinstance(thing, tuple) and len(thing) > 0 and all([isinstance(word, str) for word in thing])


def _are_words(words):
    """Return whether these strings are the words of a whole plan behind its take."""
    if not all([word in WORDS for word in words]):
        return False
    once = all([words.count(word) <= 1 for word in WORDS])
    return once and all([word in words for word in NEEDED])


def show_plan(plan):
    """Return the text of a plan."""
    return " ".join(["+".join(words) for words in plan])


def read_plan(text):
    """Return the plan that a text writes; any value that writes none raises NoPlan."""
    if not isinstance(text, str):
        raise NoPlan()
    plan = [tuple(part.split("+")) for part in text.split(" ")]
    if not is_plan(plan):
        raise NoPlan()
    return plan


def place_of(plan, word):
    """Return the index of the transaction with a word, or None."""
    for at, words in enumerate(plan):
        if word in words:
            return at
    return None
