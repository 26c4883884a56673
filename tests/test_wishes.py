import itertools
import unittest

from wishstrike.things import is_wish

from samples import NEVER, STANDS, TWELVE_DOORS, WISHES, never_right

WORDS = ("unlike", "many", "sum", "row", "hand")

# One wish of each kind for any names, with so many weights and lengths as names.
MAKERS = (
    lambda names: ("unlike", names),
    lambda names: ("many", names, ((0, 0, 1),)),
    lambda names: ("sum", names, (1,) * len(names), 0, 5),
    lambda names: ("row", names, ((0, 1, 0),), (0,)),
    lambda names: ("hand", names, (1,) * len(names)),
)


class WishCase(unittest.TestCase):
    def yes(self, thing):
        with self.subTest(thing):
            self.assertIs(is_wish(thing), True)

    def no(self, thing):
        with self.subTest(thing):
            self.assertIs(is_wish(thing), False)


class EveryKind(WishCase):
    def test_ordinary(self):
        for wish in WISHES:
            self.yes(wish)

    def test_names(self):
        for make in MAKERS:
            for size in range(6):
                for names in itertools.product((-1, 0, 1, 2, 3, 4), repeat=min(size, 4)):
                    names += (0,) * (size - len(names))
                    right = 1 <= size <= 4 and len(set(names)) == size and set(names) <= {0, 1, 2, 3}
                    if is_wish(make(names)) is not right:
                        self.fail(repr(make(names)))

    def test_truths_are_no_names(self):
        for make in MAKERS:
            for names in ((True,), (False,), (0, True), (False, 1), (True, 2), (2, 3, True)):
                self.no(make(names))

    def test_a_part_made_wrong(self):
        for wish in WISHES:
            for thing in never_right(wish):
                self.no(thing)

    def test_a_part_more_or_fewer(self):
        for wish in WISHES:
            for cut in range(len(wish)):
                self.no(wish[:cut])
            for cut in range(1, len(wish)):
                self.no(wish[cut:])
            for more in (0, (), (0,), None, wish[-1], "many"):
                self.no(wish + (more,))
                self.no((more,) + wish)

    def test_another_kinds_word(self):
        for wish in WISHES:
            for word in WORDS + ("", "Unlike", "MANY", "sums", " row", "hands", "line"):
                if word != wish[0]:
                    self.no((word,) + wish[1:])

    def test_other_things(self):
        for thing in NEVER + STANDS + WORDS + ((), 0, (0,), WISHES, [WISHES[0]]):
            self.no(thing)
            self.no((thing,))
            self.no(("unlike", (0,), thing))
            if thing != "unlike":
                self.no((thing, (0,)))


class Many(WishCase):
    def wish(self, bounds):
        return ("many", (0, 1), bounds)

    def test_how_many_bounds(self):
        for many in range(5):
            self.yes(self.wish(tuple((worth, 0, 1) for worth in range(many))))
        self.no(self.wish(tuple((worth, 0, 1) for worth in range(5))))

    def test_worths(self):
        for worth in range(-12, 13):
            with self.subTest(worth):
                self.assertIs(is_wish(self.wish(((worth, 0, 1),))), -9 <= worth <= 9)

    def test_worths_are_rising(self):
        self.yes(self.wish(((-9, 1, 1), (0, 0, 0), (9, 0, 0))))
        self.no(self.wish(((1, 0, 1), (0, 0, 1))))
        self.no(self.wish(((0, 0, 1), (0, 0, 1))))
        self.no(self.wish(((0, 0, 1), (0, 1, 2))))
        self.no(self.wish(((0, 0, 1), (2, 0, 1), (1, 0, 1))))

    def test_low_and_high(self):
        for low in range(-2, 7):
            for high in range(-2, 7):
                with self.subTest(low=low, high=high):
                    self.assertIs(is_wish(self.wish(((0, low, high),))), 0 <= low <= high <= 4)

    def test_bounds_of_another_form(self):
        for bound in ((), (0,), (0, 1), (0, 1, 1, 1), [0, 1, 1], ((0, 1, 1),), 0, "011", None):
            self.no(self.wish((bound,)))
            self.no(self.wish(((-1, 0, 1), bound)))
        for bound in ((True, 0, 1), (0, False, 1), (0, 0, True), (0, True, True), (False, 0, 1)):
            self.no(self.wish((bound,)))
        self.no(self.wish([(0, 0, 1)]))
        self.no(self.wish((0, 0, 1)))


class Sums(WishCase):
    def test_how_many_weights(self):
        for names in ((0,), (1, 0), (0, 1, 2), (3, 2, 1, 0)):
            for many in range(6):
                with self.subTest(names=names, many=many):
                    self.assertIs(is_wish(("sum", names, (1,) * many, 0, 5)), many == len(names))

    def test_weights(self):
        for weight in range(-5, 6):
            with self.subTest(weight):
                self.assertIs(is_wish(("sum", (0,), (weight,), 0, 5)), -3 <= weight <= 3)
                self.assertIs(is_wish(("sum", (0, 2), (1, weight), 0, 5)), -3 <= weight <= 3)
        for weight in (True, False, None, "1", (1,), [1]):
            self.no(("sum", (0,), (weight,), 0, 5))

    def test_low_and_high(self):
        edges = (-101, -100, -99, -98, -1, 0, 1, 98, 99, 100, 101)
        for low in edges:
            for high in edges:
                with self.subTest(low=low, high=high):
                    self.assertIs(is_wish(("sum", (0,), (1,), low, high)), -99 <= low <= high <= 99)
        for truth in (True, False):
            self.no(("sum", (0,), (1,), truth, 5))
            self.no(("sum", (0,), (1,), -5, truth))
        self.no(("sum", (0,), (1,), (0, 5)))
        self.no(("sum", (0,), [1], 0, 5))


class Rows(WishCase):
    def wish(self, doors):
        return ("row", (0, 1), doors, (0,))

    def test_how_many_doors(self):
        for many in range(13):
            self.yes(self.wish(TWELVE_DOORS[:many]))
        self.no(self.wish(TWELVE_DOORS + ((0, 1, 0),)))

    def test_doors_at_their_bounds(self):
        for number in range(-12, 13):
            with self.subTest(number):
                self.assertIs(is_wish(self.wish(((number, 0, 0),))), 0 <= number <= 3)
                self.assertIs(is_wish(self.wish(((0, number, 0),))), -9 <= number <= 9)
                self.assertIs(is_wish(self.wish(((0, 0, number),))), 0 <= number <= 3)

    def test_doors_are_unlike_in_any_order(self):
        doors = ((0, 1, 2), (0, 1, 3), (0, 2, 2), (1, 1, 2))
        for some in itertools.product(doors, repeat=3):
            with self.subTest(some):
                self.assertIs(is_wish(self.wish(some)), len(set(some)) == 3)

    def test_doors_of_another_form(self):
        for door in ((), (0,), (0, 1), (0, 1, 1, 1), [0, 1, 1], ((0, 1, 1),), 0, "011", None):
            self.no(self.wish((door,)))
            self.no(self.wish(((0, 0, 0), door)))
        for door in ((True, 0, 0), (0, True, 0), (0, 0, True), (False, 0, 0)):
            self.no(self.wish((door,)))
        self.no(self.wish([(0, 1, 1)]))
        self.no(self.wish((0, 1, 1)))

    def test_ends(self):
        for size in range(6):
            for ends in itertools.product((-1, 0, 1, 2, 3, 4), repeat=min(size, 4)):
                ends += (3,) * (size - len(ends))
                right = list(ends) == sorted(set(ends)) and set(ends) <= {0, 1, 2, 3}
                if is_wish(("row", (0,), (), ends)) is not right:
                    self.fail(repr(ends))
        for ends in ((True,), (False,), (0, True), (False, 1), [], [0], None, 0, ((0,),), ("0",)):
            self.no(("row", (0,), (), ends))


class Hands(WishCase):
    def test_how_many_lengths(self):
        for names in ((0,), (1, 0), (0, 1, 2), (3, 2, 1, 0)):
            for many in range(6):
                with self.subTest(names=names, many=many):
                    self.assertIs(is_wish(("hand", names, (1,) * many)), many == len(names))

    def test_lengths(self):
        for length in range(-2, 8):
            with self.subTest(length):
                self.assertIs(is_wish(("hand", (0,), (length,))), 1 <= length <= 4)
                self.assertIs(is_wish(("hand", (3, 0), (1, length))), 1 <= length <= 4)
        for length in (True, False, None, "1", (1,), [1]):
            self.no(("hand", (0,), (length,)))
        self.no(("hand", (0,), [1]))
        self.no(("hand", (0,), 1))


if __name__ == "__main__":
    unittest.main()
