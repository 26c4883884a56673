"""Stands and wishes as texts, written and read."""

from wishstrike.errors import NoText
from wishstrike.things import is_stand, is_wish

# What stands behind each word, in order.
FORMS = {
    "unlike": ("numbers",),
    "many": ("numbers", "tuples"),
    "sum": ("numbers", "numbers", "number", "number"),
    "row": ("numbers", "tuples", "numbers"),
    "hand": ("numbers", "numbers"),
}


def show_joined(texts):
    return ",".join(texts) if texts else "-"


def show_numbers(numbers):
    return show_joined([str(number) for number in numbers])


def show_tuples(tuples):
    return show_joined([":".join([str(number) for number in numbers]) for numbers in tuples])


def show_thing(form, thing):
    if form == "number":
        return str(thing)
    if form == "numbers":
        return show_numbers(thing)
    return show_tuples(thing)


def show_stand(stand):
    return " ".join([show_numbers(worths) for worths in stand])


def show_wish(wish):
    things = [show_thing(form, thing) for form, thing in zip(FORMS[wish[0]], wish[1:])]
    return " ".join([wish[0]] + things)


def is_number(text):
    figures = text[1:] if text.startswith("-") else text
    if not 1 <= len(figures) <= 2 or not all([sign in "0123456789" for sign in figures]):
        return False
    return text == "0" or figures[0] != "0"


def read_number(text):
    if not is_number(text):
        raise NoText("this is no number")
    return int(text)


def split_joined(text):
    return [] if text == "-" else text.split(",")


def read_numbers(text):
    return tuple([read_number(part) for part in split_joined(text)])


def read_tuple(text):
    return tuple([read_number(part) for part in text.split(":")])


def read_thing(form, text):
    if form == "number":
        return read_number(text)
    if form == "numbers":
        return read_numbers(text)
    return tuple([read_tuple(part) for part in split_joined(text)])


# What is written rightly may still be no stand: its numbers may not rise, or be too many.
def read_stand(text):
    stand = tuple([read_numbers(part) for part in text.split(" ")])
    if not is_stand(stand):
        raise NoText("this is no text of a stand")
    return stand


def read_wish(text):
    parts = text.split(" ")
    forms = FORMS.get(parts[0], ())
    if len(parts) != len(forms) + 1:
        raise NoText("this is no text of a wish")
    wish = tuple(parts[:1] + [read_thing(form, part) for form, part in zip(forms, parts[1:])])
    if not is_wish(wish):
        raise NoText("this is no text of a wish")
    return wish
