"""Orders: which there are, and what stands in the line of one."""

from keytellers.readers import integer_of, words_of

# What stands behind the word of each order: names, integers, and words, these to the end of the line.
SHAPES = {
    "book": ("name",),
    "with": ("name", "name", "words"),
    "without": ("name", "name", "integer"),
    "part": ("name", "name", "words"),
    "drop": ("name",),
    "undo": (),
    "show": ("name",),
    "free": ("name",),
    "closed": ("name",),
    "table": ("name", "words"),
    "tables": ("name", "integer", "words"),
    "told": ("name", "integer", "words"),
    "core": ("name",),
    "road": ("name",),
    "seats": ("name",),
    "short": ("name",),
    "placed": ("name",),
    "names": (),
}


def order_of(line):
    """(word, list of what stands behind it) if a line is an order, else None."""
    word, *parts = line.split(" ")
    if word not in SHAPES:
        return None
    shape = SHAPES[word]
    if "words" in shape:
        last = len(shape) - 1
        parts = parts[:last] + [" ".join(parts[last:])]
    if len(parts) != len(shape):
        return None
    things = [thing_of(kind, part) for kind, part in zip(shape, parts)]
    return None if None in things else (word, things)


def thing_of(kind, part):
    """The thing of a kind that a part of a line shows, or None."""
    if kind == "name":
        return part if is_name(part) else None
    return words_of(part) if kind == "words" else integer_of(part)


def is_name(told):
    """Whether it is a text of one to eight letters from a to z."""
    if not isinstance(told, str) or len(told) < 1 or len(told) > 8:
        return False
    return all("a" <= sign <= "z" for sign in told)
