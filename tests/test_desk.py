import unittest

from wishstrike.desk import Desk
from wishstrike.errors import Free, NoLine, NoName, NoWish, NoWorth, Settled, TooMany, WishError

from cases import RefusalCase
from draws import Draw
from forms import number_in, pairs_text, stand_in, stand_text, wish_in, wish_text
from points import fulfilling_all, kept_by_19, pairs_of, settled_by_8, struck_by_8


class Refusal(Exception):
    """What point 21 refuses, told by the test: a class, and a number or None."""

    def __init__(self, error, number=None):
        super().__init__(error, number)
        self.told = (error, number)


class DeskBy21:
    """The desk as point 21 tells it, made of the points alone: all is looked at anew for each row."""

    def __init__(self):
        self.stand = None
        self.wishes = []
        self.order = []

    def kept(self, order):
        return kept_by_19(self.stand, self.wishes, order)

    def whole(self):
        stand = self.stand
        for name, worth in self.order:
            stand = settled_by_8(stand, name, worth)
        return stand

    def numbers(self, texts, many):
        numbers = [number_in(text) for text in texts]
        if len(texts) != many or None in numbers:
            raise Refusal(NoLine)
        return numbers

    def say(self, row):
        word, _, rest = row.partition(" ")
        if word == "stand" and stand_in(rest) is not None:
            self.stand, self.wishes, self.order = stand_in(rest), [], []
            return "ok"
        if self.stand is None or word not in ("wish", "settle", "free", "now", "count", "first", "struck"):
            raise Refusal(NoLine)
        if word in ("now", "count", "first") and row != word:
            raise Refusal(NoLine)
        return getattr(self, "say_" + word)(rest)

    def say_wish(self, rest):
        wish = wish_in(rest)
        if wish is None:
            raise Refusal(NoLine)
        if max(wish[1]) >= len(self.stand):
            raise Refusal(NoWish, len(self.wishes))
        if len(self.wishes) == 3:
            raise Refusal(TooMany)
        self.wishes.append(wish)
        return "ok"

    def changed(self, order):
        ahead, behind = pairs_of(self.kept(self.order)[0]), pairs_of(self.kept(order)[0])
        self.order = order
        return pairs_text(sorted(ahead - behind)) + " " + pairs_text(sorted(behind - ahead))

    def say_settle(self, rest):
        name, worth = self.numbers(rest.split(" "), 2)
        if name not in range(len(self.stand)):
            raise Refusal(NoName)
        if worth not in self.stand[name]:
            raise Refusal(NoWorth)
        if name in dict(self.order):
            raise Refusal(Settled)
        return self.changed(self.order + [(name, worth)])

    def say_free(self, rest):
        name, = self.numbers(rest.split(" "), 1)
        if name not in range(len(self.stand)):
            raise Refusal(NoName)
        if name not in dict(self.order):
            raise Refusal(Free)
        return self.changed([pair for pair in self.order if pair[0] != name])

    def say_now(self, rest):
        stand, ended = self.kept(self.order)
        return stand_text(stand) + (" ended" if ended else "")

    def say_count(self, rest):
        return str(len(fulfilling_all(self.whole(), self.wishes)))

    def say_first(self, rest):
        some = fulfilling_all(self.whole(), self.wishes)
        return ",".join(map(str, some[0])) if some else "none"

    def say_struck(self, rest):
        number, = self.numbers(rest.split(" "), 1)
        if number not in range(len(self.wishes)):
            raise Refusal(NoWish, number)
        wish = self.wishes[number]
        pairs = struck_by_8(self.kept(self.order)[0], wish)
        return pairs_text([pair for pair in pairs if pair[0] in wish[1]])


class Rows:
    """Rows drawn for a desk, most of them good ones."""

    def __init__(self, seed):
        self.draw = Draw(seed)
        self.stand = self.draw.stand()

    def row(self):
        draw = self.draw
        row = draw.pick((self.begin, self.wish, self.wish, self.settle, self.settle, self.settle, self.free, self.free,
                         self.asked, self.asked, self.strikes, self.beyond))()
        return self.bent(row) if draw.below(7) == 0 else row

    def begin(self):
        if self.draw.below(3) == 0:
            self.stand = self.draw.stand()
            return "stand " + stand_text(self.stand)
        return "count"

    def wish(self):
        return "wish " + wish_text(self.draw.wish_of(self.stand, self.draw.filling(self.stand)))

    def settle(self):
        name = self.draw.below(len(self.stand))
        return f"settle {name} {self.draw.pick(self.stand[name])}"

    def free(self):
        return f"free {self.draw.below(len(self.stand))}"

    def asked(self):
        return self.draw.pick(("now", "count", "first"))

    def strikes(self):
        return f"struck {self.draw.below(3)}"

    def beyond(self):
        far = self.draw.pick((-99, -10, -1, 3, 4, 10, 99, 100))
        own = self.draw.below(len(self.stand))
        return self.draw.pick((f"settle {far} 0", f"settle {own} {far}", f"settle {far} {far}", f"free {far}",
                               f"struck {far}", "wish unlike 3", "wish sum 3,0 1,1 0 9", "wish hand 0,2 1,1"))

    def bent(self, row):
        at = self.draw.below(len(row) + 1)
        sign = self.draw.pick(" \t\n,:-019aws")
        return self.draw.pick((row[:at] + sign + row[at:], row[:at] + sign + row[at + 1:], row[:at] + row[at + 1:],
                               row[:at], row + " ", " " + row, row.upper(), row.replace(" ", "  ")))


def tell(desk, row):
    """The answer to the row, or the class of its refusal, and its number where it has one."""
    try:
        return desk.say(row)
    except Refusal as refusal:
        return refusal.told
    except WishError as refusal:
        return (type(refusal), getattr(refusal, "number", None))


class Drawn(unittest.TestCase):
    def test_held_against_the_point(self):
        came_up = {}
        for seed in range(40):
            rows, desk, by_21 = Rows(seed), Desk(), DeskBy21()
            said = ["now", "stand " + stand_text(rows.stand)] if seed % 4 else ["stand " + stand_text(rows.stand)]
            for row in said + [rows.row() for _ in range(80)]:
                answer, wanted = tell(desk, row), tell(by_21, row)
                self.assertEqual(answer, wanted, (seed, row))
                key = answer[0] if isinstance(answer, tuple) else row.split(" ")[0]
                came_up[key] = came_up.get(key, 0) + 1
        for key in (NoLine, NoWish, TooMany, NoName, NoWorth, Settled, Free,
                    "stand", "wish", "settle", "free", "now", "count", "first", "struck"):
            self.assertGreater(came_up[key], 15, key)

    def test_what_is_refused_changes_nothing(self):
        for seed in range(40, 60):
            rows, desk, other = Rows(seed), Desk(), Desk()
            for row in ["stand " + stand_text(rows.stand)] + [rows.row() for _ in range(60)]:
                answer = tell(desk, row)
                self.assertIn(type(answer), (str, tuple))
                if isinstance(answer, str):
                    self.assertEqual(tell(other, row), answer)

    def test_two_side_by_side(self):
        for seed in range(60, 70):
            one, other = Rows(seed), Rows(seed + 100)
            desks = Desk(), Desk(), DeskBy21(), DeskBy21()
            for row, other_row in zip(all_rows(one, 50), all_rows(other, 50)):
                self.assertEqual(tell(desks[0], row), tell(desks[2], row))
                self.assertEqual(tell(desks[1], other_row), tell(desks[3], other_row))


def all_rows(rows, many):
    return ["stand " + stand_text(rows.stand)] + [rows.row() for _ in range(many)]


class Said(RefusalCase):
    def said(self, *rows):
        """A desk that was told these rows, each with its answer or None for any."""
        desk = Desk()
        for row, answer in rows:
            with self.subTest(row):
                self.assertEqual(desk.say(row), answer)
        return desk

    BEGUN = (("stand 0 0,1,2 0,1,2", "ok"), ("wish unlike 0,1,2", "ok"), ("wish sum 1,2 1,1 0 4", "ok"))

    def test_ordinary(self):
        self.said(
            ("stand 0 0,1,2 0,1,2", "ok"), ("now", "0 0,1,2 0,1,2"), ("count", "9"), ("first", "0,0,0"),
            ("wish unlike 0,1,2", "ok"), ("now", "0 1,2 1,2"), ("count", "2"), ("first", "0,1,2"), ("struck 0", "-"),
            ("settle 1 2", "1:1,2:2 -"), ("now", "0 2 1"), ("count", "1"), ("first", "0,2,1"),
            ("free 1", "- 1:1,2:2"), ("settle 0 0", "- -"), ("settle 1 0", "1:1,1:2 1:0,2:0"), ("now", "0 0 0,1,2 ended"),
            ("count", "0"), ("first", "none"), ("struck 0", "0:0,1:0,2:0,2:1,2:2"), ("free 0", "- -"),
            ("free 1", "1:0,2:0 1:1,1:2"), ("now", "0 1,2 1,2"),
        )

    def test_below_0(self):
        self.said(("stand -9,-1,5 -2", "ok"), ("now", "-9,-1,5 -2"), ("first", "-9,-2"), ("settle 0 -1", "0:-9,0:5 -"),
                  ("wish hand 0,1 1,1", "ok"), ("struck 0", "-"), ("wish sum 0,1 1,0 5 5", "ok"), ("now", "-1 -2 ended"),
                  ("struck 1", "0:-1,1:-2"), ("free 0", "0:-1 0:5"), ("now", "5 -2"))

    def test_settled_names_stay_settled_behind_a_wish(self):
        self.said(("stand 0,1 0,1", "ok"), ("settle 1 0", "1:1 -"), ("wish unlike 0,1", "ok"), ("now", "1 0"),
                  ("free 1", "- 0:0,1:1"), ("now", "0,1 0,1"))
        self.said(("stand 0,1 0,1", "ok"), ("settle 1 0", "1:1 -"), ("settle 0 0", "0:1 -"), ("wish unlike 0,1", "ok"),
                  ("now", "0 0 ended"), ("free 1", "1:0 1:1"), ("now", "0 1"))

    def test_a_newer_stand_leaves_nothing(self):
        desk = self.said(*self.BEGUN, ("settle 1 2", "1:1,2:2 -"), ("stand 0,1 0,1 0", "ok"), ("now", "0,1 0,1 0"),
                         ("count", "4"), ("settle 1 0", "1:1 -"), ("free 1", "- 1:1"))
        for number in (0, 1, 2):
            self.no_wish(number, desk.say, f"struck {number}")
        for name in (0, 1, 2):
            self.refused(Free, desk.say, f"free {name}")
        for wish in ("unlike 0", "unlike 0", "unlike 0"):
            self.assertEqual(desk.say("wish " + wish), "ok")

    ROWS = ("wish unlike 0", "settle 0 0", "free 0", "now", "count", "first", "struck 0")

    def test_no_stand_stands(self):
        desk = Desk()
        for row in self.ROWS + ("", "wish", "settle 9 9", "free 9", "struck 9", "wish unlike 3", "stand", "stand 1,0"):
            self.refused(NoLine, desk.say, row)
        self.assertEqual(desk.say("stand 0"), "ok")
        self.assertEqual(desk.say("now"), "0")

    def test_no_lines(self):
        desk = self.said(*self.BEGUN)
        for row in (
            "", " ", "\n", "\t", "-", "a", "Now", "NOW", "now ", " now", "now now", "now 0", "now\n", "\nnow", "now\t",
            "count ", "count 0", "first ", "first 0", "none", "ok", "ended", "stand", "stand ", "stand  0", "stand 1,0",
            "stand 0 ", "stand 0\n", "stand 00", "stand 10", "stand -", "stand 0 0 0 0 0", "stands 0", "Stand 0",
            "wish", "wish ", "wish unlike", "wish unlike -", "wish unlike 4", "wish unlike 0,0", "wish  unlike 0",
            "wish unlike 0 ", "wish 0", "wish stand 0", "unlike 0", "settle", "settle ", "settle 0", "settle 0 ",
            "settle 0 0 0", "settle 0 0 ", "settle  0 0", "settle 0  0", "settle 0,0", "settle 0:0", "settle 00 0",
            "settle 0 00", "settle -0 0", "settle 0 -0", "settle 0 100", "settle 100 0", "settle a 0", "settle 0 a",
            "settle +0 0", "settle 0 -", "settle - 0", "settle 0\t0", "settle 0 0\n", "settle 9 100", "free", "free ",
            "free 0 0", "free 00", "free -0", "free 100", "free a", "free  0", "free 0 ", "free -", "struck", "struck ",
            "struck 0 0", "struck 00", "struck -0", "struck 100", "struck a", "struck  0", "struck -", "struck 0\n",
        ):
            self.refused(NoLine, desk.say, row)
        self.assertEqual(desk.say("now"), "0 1,2 1,2")

    def test_no_wish(self):
        desk = Desk()
        desk.say("stand 0,1 0,1")
        for many in (0, 1, 2, 3):
            for wish in ("unlike 2", "unlike 0,3", "many 2 -", "sum 0,2 1,1 0 9", "row 3 - -", "hand 2,0 1,1"):
                self.no_wish(many, desk.say, "wish " + wish)
            for number in (-99, -1, many, many + 1, 99):
                self.no_wish(number, desk.say, f"struck {number}")
            if many < 3:
                self.assertEqual(desk.say("wish unlike 0"), "ok")
        self.refused(TooMany, desk.say, "wish unlike 0")
        self.assertEqual(desk.say("count"), "4")

    def test_settle_and_free_are_refused_in_order(self):
        desk = self.said(*self.BEGUN, ("settle 1 2", "1:1,2:2 -"))
        for name in (-99, -1, 3, 4, 99):
            for worth in (-99, 0, 2, 99):
                self.refused(NoName, desk.say, f"settle {name} {worth}")
            self.refused(NoName, desk.say, f"free {name}")
        for worth in (-99, -1, 3, 99):
            self.refused(NoWorth, desk.say, f"settle 1 {worth}")
            self.refused(NoWorth, desk.say, f"settle 2 {worth}")
        for worth in (0, 1, 2):
            self.refused(Settled, desk.say, f"settle 1 {worth}")
        self.refused(Free, desk.say, "free 2")
        self.refused(Free, desk.say, "free 0")
        self.assertEqual(desk.say("now"), "0 2 1")

    def test_two_desks(self):
        one = self.said(*self.BEGUN)
        other = Desk()
        self.refused(NoLine, other.say, "now")
        self.assertEqual(other.say("stand 5"), "ok")
        self.assertEqual(one.say("settle 2 1"), "1:1,2:2 -")
        self.assertEqual((one.say("now"), other.say("now")), ("0 2 1", "5"))


if __name__ == "__main__":
    unittest.main()
