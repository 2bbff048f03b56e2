"""Runs an example of the document as it stands there."""


def failures_of(text):
    """Return what differs: tuples of a line, what the document says, and what came."""
    names = {}
    wrong = []
    lines = text.strip().split("\n")
    for at, line in enumerate(lines):
        if not line.startswith(">>> "):
            continue
        behind = lines[at + 1] if at + 1 < len(lines) else ">>> "
        came = _run(line[4:], names)
        wanted = None if behind.startswith(">>> ") else behind
        if came != wanted:
            wrong.append((line, wanted, came))
    return wrong


def _run(line, names):
    try:
        code = compile(line, "example", "eval")
    except SyntaxError:
        exec(line, names)
        return None
    try:
        return repr(eval(code, names))
    except Exception as error:
        fields = ", ".join(repr(value) for value in vars(error).values())
        return f"raises {type(error).__name__}({fields})"
