"""A desk that is told rows and answers with texts."""

from wishstrike.errors import NoLine, NoText, NoWish
from wishstrike.fillings import first, how_many
from wishstrike.keeper import Keeper
from wishstrike.kinds import is_number_of
from wishstrike.papers import struck
from wishstrike.texts import read_number, read_stand, read_wish, show_numbers, show_stand, show_tuples


def stand_of(text):
    try:
        return read_stand(text)
    except NoText:
        raise NoLine("this is no text of a stand")


def wish_of(text):
    try:
        return read_wish(text)
    except NoText:
        raise NoLine("this is no text of a wish")


def numbers_of(texts):
    try:
        return [read_number(text) for text in texts]
    except NoText:
        raise NoLine("this is no number")


def show_change(change):
    return show_tuples(change[0]) + " " + show_tuples(change[1])


class Desk:
    def __init__(self):
        self.kept = None

    def say(self, row):
        parts = row.partition(" ")
        if parts[0] == "stand":
            self.kept = Keeper(stand_of(parts[2]), [])
            return "ok"
        if self.kept is None:
            raise NoLine("there is no stand yet")
        if parts[0] == "wish":
            self.kept = self.kept.with_wish(wish_of(parts[2]))
            return "ok"
        words = row.split(" ")
        if len(words) == 1:
            return self.tell(row)
        return self.do(words[0], words[1:])

    def tell(self, word):
        if word == "now":
            return show_stand(self.kept.stand()) + (" ended" if self.kept.ended() else "")
        if word == "count":
            return str(how_many(self.kept.settled_stand(), self.kept.wishes()))
        if word == "first":
            return self.tell_first()
        raise NoLine("this is none of the rows")

    def tell_first(self):
        filling = first(self.kept.settled_stand(), self.kept.wishes())
        return "none" if filling is None else show_numbers(filling)

    def do(self, word, texts):
        if word == "settle" and len(texts) == 2:
            numbers = numbers_of(texts)
            return show_change(self.kept.settle(numbers[0], numbers[1]))
        if word == "free" and len(texts) == 1:
            return show_change(self.kept.free(numbers_of(texts)[0]))
        if word == "struck" and len(texts) == 1:
            return self.tell_struck(numbers_of(texts)[0])
        raise NoLine("this is none of the rows")

    def tell_struck(self, number):
        wishes = self.kept.wishes()
        if not is_number_of(number, wishes):
            raise NoWish(number)
        return show_tuples(struck(self.kept.stand(), wishes[number]))
