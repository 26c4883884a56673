"""How point 20 writes stands and wishes, told by patterns, without the program."""

import re

from points import is_wish_by_5, stand_by_4

NUMBER = "(?:0|-?[1-9][0-9]?)"
NUMBERS = f"{NUMBER}(?:,{NUMBER})*"
SOME = f"(?:-|{NUMBERS})"
TUPLE = f"{NUMBER}(?::{NUMBER})*"
TUPLES = f"(?:-|{TUPLE}(?:,{TUPLE})*)"
WISHES = {
    "unlike": f"({SOME})",
    "many": f"({SOME}) ({TUPLES})",
    "sum": f"({SOME}) ({SOME}) ({NUMBER}) ({NUMBER})",
    "row": f"({SOME}) ({TUPLES}) ({SOME})",
    "hand": f"({SOME}) ({SOME})",
}
# Which things of a wish are tuples of tuples, and which are bare numbers.
OF_TUPLES = (("many", 1), ("row", 1))
BARE = (("sum", 2), ("sum", 3))


def numbers_in(text):
    return () if text == "-" else tuple(int(part) for part in text.split(","))


def tuples_in(text):
    return () if text == "-" else tuple(tuple(int(part) for part in row.split(":")) for row in text.split(","))


def stand_in(text):
    """The stand that the text is one of, or None."""
    if re.fullmatch(f"{NUMBERS}(?: {NUMBERS})*", text) is None:
        return None
    lists = tuple(numbers_in(part) for part in text.split(" "))
    return lists if stand_by_4(lists) else None


def wish_in(text):
    """The wish that the text is one of, or None."""
    word, _, rest = text.partition(" ")
    found = re.fullmatch(WISHES.get(word, "(?!)"), rest)
    if found is None:
        return None
    things = []
    for at, part in enumerate(found.groups()):
        if (word, at) in BARE:
            things.append(int(part))
        else:
            things.append(tuples_in(part) if (word, at) in OF_TUPLES else numbers_in(part))
    return (word, *things) if is_wish_by_5(word, *things) else None


def number_in(text):
    return int(text) if re.fullmatch(NUMBER, text) else None


def pairs_text(pairs):
    return ",".join(f"{name}:{worth}" for name, worth in pairs) or "-"


def stand_text(stand):
    return " ".join(",".join(map(str, worths)) for worths in stand)


def thing_text(thing):
    if isinstance(thing, int):
        return str(thing)
    parts = [str(part) if isinstance(part, int) else ":".join(map(str, part)) for part in thing]
    return ",".join(parts) or "-"


def wish_text(wish):
    return " ".join([wish[0]] + [thing_text(thing) for thing in wish[1:]])
