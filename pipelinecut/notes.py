"""Nets as texts: written and read."""

from pipelinecut.errors import BadNote
from pipelinecut.nets import checked


def written(net):
    """The net's text: its pipes, then each worker with its orders, a line each."""
    pipes, rows = net
    lines = [f"pipe {maker} {taker} {room}" for maker, taker, room in pipes]
    for row in rows:
        lines.append("worker")
        lines.extend([f"{word} {number}" for word, number in row])
    return "\n".join(lines)


def read(text):
    """The net of which this is the text; BadNote, NoPipe or NoOrder where there is none."""
    pipes = []
    rows = []
    for at, line in enumerate(text.split("\n"), start=1):
        word, *parts = line.split(" ")
        if not _is_line(word, parts, len(rows)):
            raise BadNote(f"line {at} is none that may stand there")
        numbers = [int(part) for part in parts]
        if word == "pipe":
            pipes.append(tuple(numbers))
        elif word == "worker":
            rows.append([])
        else:
            rows[-1].append((word, numbers[0]))
    if not rows:
        raise BadNote("there is no worker")
    # All lines have to be good before the first wrong pipe or order is told.
    return checked((pipes, rows))


def _is_line(word, parts, workers):
    """Whether a line of this word and these parts may stand behind so many workers."""
    if word == "worker":
        return not parts
    if word == "pipe":
        return workers == 0 and len(parts) == 3 and all([_is_count(part) for part in parts])
    if workers == 0 or len(parts) != 1:
        return False
    if word == "set":
        return _is_number(parts[0])
    return word in ("put", "take", "add") and _is_count(parts[0])


def _is_number(part):
    """Whether the part is a number that may be below nought."""
    if part.startswith("-"):
        return part != "-0" and _is_count(part[1:])
    return _is_count(part)


def _is_count(part):
    """Whether the part is a number from nought on, in figures, without noughts ahead."""
    # isdigit alone lets figures of other scripts by.
    if not part.isascii() or not part.isdigit():
        return False
    return part == "0" or not part.startswith("0")
