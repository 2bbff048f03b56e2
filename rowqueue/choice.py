"""Which rows a take takes."""

OPEN_WORDS = ("free", "busy")


def ordered(rows, order):
    """Return all indexes in the order in which a take looks at the rows."""
    if order != "weight":
        return list(range(len(rows)))
    pairs = sorted([(-row[1], at) for at, row in enumerate(rows)])
    return [at for _, at in pairs]


def batch(rows, setting, view, many):
    """Return the indexes that one take of up to many rows takes, in the order of taking."""
    taken = []
    closed = {}
    for at in ordered(rows, setting.order):
        key = rows[at][0]
        if view[at] == "free" and key not in closed:
            taken.append(at)
            if len(taken) == many:
                return taken
        elif view[at] in OPEN_WORDS and not setting.skip:
            return taken
        if _bars(setting, view[at]):
            closed[key] = True
    return taken


def _bars(setting, word):
    """Return whether a row with this word bars the later rows of its key."""
    if setting.order != "key":
        return False
    # A row that is taken bars as well: it is open before and after.
    return word in OPEN_WORDS or (word == "dead" and setting.dead == "closes")


def is_barred(rows, setting, view, at):
    """Return whether an earlier row of its key bars a row."""
    key = rows[at][0]
    return any([rows[k][0] == key and _bars(setting, view[k]) for k in range(at)])


def chosen(rows, setting, view):
    """Return the row that a take of one row takes, or None."""
    taken = batch(rows, setting, view, 1)
    return taken[0] if taken else None
