import itertools
import unittest

from wishstrike.things import fulfils

from points import hand_by_7, many_by_7, row_by_7, sum_by_7, unlike_by_7
from samples import TWELVE_DOORS

# Each with all its fillings; the last has four names, the others some of them.
STANDS = (
    ((-1, 0, 2, 5),),
    ((0, 1, 2), (0, 1, 2, 4)),
    ((-9, 9), (-1, 0, 1), (0, 1, 3)),
    ((0, 1, 2, 3), (-1, 1, 4), (0, 2, 6), (1, 2, 3, 9)),
)


def names_of(stand):
    for size in range(1, len(stand) + 1):
        yield from itertools.permutations(range(len(stand)), size)


class Fulfils(unittest.TestCase):
    def hold(self, wishes_of, by_7):
        """All fillings of all stands against [7]; both answers must come up."""
        told = set()
        for stand in STANDS:
            for names in names_of(stand):
                for wish in wishes_of(names):
                    told |= self.hold_one(stand, wish, by_7)
        self.assertEqual(told, {True, False})

    def hold_one(self, stand, wish, by_7):
        told = set()
        for filling in itertools.product(*stand):
            answer = by_7([filling[name] for name in wish[1]], *wish[2:])
            if fulfils(wish, filling) is not answer:
                self.fail(f"{wish!r} {filling!r}")
            told.add(answer)
        return told

    def test_unlike(self):
        self.hold(lambda names: [("unlike", names)], unlike_by_7)

    def test_many(self):
        some = (
            (), ((0, 0, 0),), ((1, 1, 1),), ((2, 0, 1), (4, 0, 1)), ((0, 1, 2), (1, 0, 1), (2, 0, 0)),
            ((1, 2, 4),), ((-9, 0, 4), (-1, 0, 0), (7, 0, 4), (9, 0, 1)), ((7, 1, 1),), ((1, 3, 4),), ((2, 4, 4),),
        )
        self.hold(lambda names: [("many", names, bounds) for bounds in some], many_by_7)

    def test_sum(self):
        some = ((0, 0), (-99, 99), (3, 7), (-5, -1), (99, 99), (1, 1))
        weights = ((1, 1, 1, 1), (3, -3, 2, -1), (0, 1, 0, 2), (-2, -1, 3, 1))

        def wishes(names):
            for weight in weights:
                for low, high in some:
                    yield ("sum", names, weight[:len(names)], low, high)

        self.hold(wishes, sum_by_7)

    def test_row(self):
        some = (
            ((), ()),
            ((), (0,)),
            (((0, 0, 0), (0, 1, 0), (0, 2, 0)), (0,)),
            (((0, 0, 0), (0, 1, 0), (0, 2, 0)), ()),
            (((0, 0, 1), (0, 1, 1), (0, 1, 2), (1, 1, 2), (2, 1, 0), (1, 2, 3)), (2, 3)),
            (((0, 2, 1), (0, 2, 2), (1, 0, 3), (2, 1, 3), (3, 1, 0), (3, 2, 3)), (0, 3)),
            (((1, 0, 1), (1, 1, 1), (1, 2, 1)), (0, 1)),
        )
        self.hold(lambda names: [("row", names) + each for each in some], row_by_7)

    def test_row_of_twelve_doors(self):
        for names in ((0,), (0, 1), (1, 2, 0)):
            for ends in ((), (0,), (3,), (1, 2), (0, 1, 2, 3)):
                self.hold_one(((-9, 0, 1, 9),) * 3, ("row", names, TWELVE_DOORS, ends), row_by_7)

    def test_hand(self):
        some = ((1, 1, 1, 1), (4, 1, 2, 3), (1, 2, 3, 4), (2, 2, 1, 1), (4, 4, 4, 4))
        self.hold(lambda names: [("hand", names, each[:len(names)]) for each in some], hand_by_7)


class ByHand(unittest.TestCase):
    def yes(self, wish, filling):
        self.assertIs(fulfils(wish, filling), True)

    def no(self, wish, filling):
        self.assertIs(fulfils(wish, filling), False)

    def test_unlike_looks_at_its_names_alone(self):
        self.yes(("unlike", (0, 2)), (1, 1, 2))
        self.no(("unlike", (1, 0)), (1, 1, 2))
        self.no(("unlike", (0, 1, 2)), (1, 2, 1))
        self.yes(("unlike", (1,)), (1, 1))

    def test_many_counts_its_names_alone(self):
        self.yes(("many", (0, 1), ((5, 1, 1),)), (5, 4, 5))
        self.no(("many", (0, 2), ((5, 1, 1),)), (5, 4, 5))
        self.no(("many", (1,), ((5, 1, 1),)), (5, 4, 5))
        self.yes(("many", (1,), ()), (5, 4, 5))

    def test_weights_go_by_the_order_of_names(self):
        self.yes(("sum", (1, 0), (3, -1), 5, 5), (1, 2))
        self.no(("sum", (0, 1), (3, -1), 5, 5), (1, 2))
        self.yes(("sum", (0, 1), (3, -1), 1, 1), (1, 2))

    def test_doors_go_by_the_order_of_names(self):
        doors = ((0, 5, 1), (1, 6, 2))
        self.yes(("row", (0, 1), doors, (2,)), (5, 6))
        self.no(("row", (1, 0), doors, (2,)), (5, 6))
        self.yes(("row", (1, 0), doors, (2,)), (6, 5))
        self.no(("row", (0, 1), doors, (0, 1, 3)), (5, 6))

    def test_a_row_needs_a_door_for_each_name(self):
        self.no(("row", (0,), (), (0, 1, 2, 3)), (5,))
        self.no(("row", (0, 1), ((0, 5, 1),), (0, 1, 2, 3)), (5, 5))

    def test_a_row_may_go_either_way(self):
        doors = ((0, 1, 2), (0, 1, 1), (1, 1, 3))
        self.yes(("row", (0, 1), doors, (3,)), (1, 1))

    def test_a_hand_may_go_on_at_once(self):
        self.yes(("hand", (0, 1), (2, 1)), (0, 2))
        self.no(("hand", (0, 1), (3, 1)), (0, 2))
        self.yes(("hand", (0, 1), (3, 1)), (3, 2))
        self.no(("hand", (0, 1), (3, 2)), (3, 2))
        self.no(("hand", (0, 1), (1, 1)), (2, 2))
        self.yes(("hand", (1, 0), (3, 1)), (2, 3 + 2))

    def test_a_hand_looks_at_each_two(self):
        self.no(("hand", (0, 1, 2), (4, 1, 1)), (0, 4, 3))
        self.yes(("hand", (0, 1, 2), (4, 1, 1)), (0, 5, 4))
        self.no(("hand", (0, 1, 2), (1, 1, 4)), (3, 9, 0))
        self.yes(("hand", (0,), (4,)), (9, 9))

    def test_what_lies_somewhat_beyond_is_not_refused(self):
        filling = (20, 1, 2, 3, 4)
        self.yes(("unlike", (0, 1, 2, 3, 4)), filling)
        self.yes(("sum", (0, 4), (10, 1), 204, 204), filling)
        self.yes(("row", (4, 0), ((0, 4, 7), (7, 20, 9)), (9,)), filling)


if __name__ == "__main__":
    unittest.main()
