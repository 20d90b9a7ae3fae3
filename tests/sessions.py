"""Runs the examples of DOC.md, as they stand there."""

import re


def sessions_of(text):
    """Split a text into sessions: the lines with >>>, and the line of the result behind them."""
    sessions, lines = [], []
    for line in text.strip().splitlines():
        line = line.strip()
        if line.startswith(">>> "):
            lines.append(line[4:])
        elif line:
            sessions.append((lines, line))
            lines = []
    if lines:
        raise AssertionError("a session without a result: " + lines[-1])
    return sessions


def shown(error):
    """The class and the fields of an error, as DOC.md writes them."""
    fields = ", ".join(repr(value) for value in vars(error).values())
    return "raises {}({})".format(error.__class__.__name__, fields)


def result_of(lines):
    """The last line that the session shows."""
    names = {}
    for line in lines[:-1]:
        exec(line, names)
    try:
        return repr(eval(lines[-1], names))
    except (ValueError, LookupError) as error:
        return shown(error)


def names_used(text):
    """The names that the sessions import from the package, as (module, name)."""
    found = set()
    for module, names in re.findall(r"from blindpush\.(\w+) import (.+)", text):
        found.update((module, name.strip()) for name in names.split(","))
    return found
