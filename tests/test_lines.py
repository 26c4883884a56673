import itertools
import unittest

from wishstrike.lines import row_can, row_paper

from cases import PaperCase, WalkTests
from points import right_by_13
from samples import TWELVE_DOORS


class RowCase(PaperCase):
    word = "row"

    def can(self, stand, wish):
        return row_can(stand, wish)

    def paper(self, stand, wish, paper):
        return row_paper(stand, wish, paper)

    def right(self, stand, wish, paper):
        return right_by_13(stand, wish, paper)


class Walks(WalkTests, RowCase):
    def onward(self, wish, at, place, worth):
        return [p for q, through, p in wish[2] if (q, through) == (place, worth)]

    def ends(self, wish):
        return wish[3]


class Can(RowCase):
    def test_every_end(self):
        doors = ((0, 0, 1), (0, 1, 1), (0, 1, 2), (1, 1, 2), (2, 1, 0), (1, 2, 3), (3, 0, 3))
        stand = ((0, 1), (1, 2), (0,), (1,))
        for size in range(5):
            for ends in itertools.combinations(range(4), size):
                for many in (1, 2, 3, 4):
                    for names in itertools.permutations(range(4), many):
                        self.told(stand, ("row", names, doors, ends))

    def test_twelve_doors(self):
        for ends in ((), (0,), (3,), (1, 2), (0, 1, 2, 3)):
            for names in ((0,), (0, 1), (1, 2, 0), (3, 2, 1, 0)):
                self.told(((-9, 0, 1, 9),) * 4, ("row", names, TWELVE_DOORS, ends))

    def test_no_doors_or_no_ends(self):
        self.assertEqual(row_can(((0,), (1,)), ("row", (0, 1), (), (0, 1, 2, 3))), ("no", [(0,), (), ()]))
        self.assertEqual(self.told(((0,),), ("row", (0,), ((0, 0, 0),), ()))[0], "no")
        self.assertEqual(row_can(((0,),), ("row", (0,), ((0, 0, 0),), (0,))), ("can", (0,)))

    def test_one_filling_alone(self):
        stand = ((0, 1), (0, 1), (0, 1))
        doors = ((0, 1, 1), (1, 0, 2), (2, 0, 3), (1, 1, 0))
        self.assertEqual(row_can(stand, ("row", (2, 0, 1), doors, (3,))), ("can", (0, 0, 1)))

    def test_a_walk_begins_at_0(self):
        self.assertEqual(self.told(((0,),), ("row", (0,), ((1, 0, 3), (2, 0, 3), (3, 0, 3)), (3,)))[0], "no")
        self.assertEqual(self.told(((0,),), ("row", (0,), ((1, 0, 3), (0, 0, 3)), (3,)))[0], "can")


class Papers(RowCase):
    STAND = ((5, 6), (5,))
    WISH = ("row", (0, 1), ((0, 5, 1), (0, 6, 2), (1, 5, 1), (1, 5, 2), (3, 5, 3), (2, 6, 3)), (3,))

    def test_ordinary(self):
        self.yes(self.STAND, self.WISH, [(0,), (1, 2), (1, 2)])
        self.yes(self.STAND, self.WISH, [(0,), (0, 1, 2), (0, 1, 2)])
        self.no(self.STAND, self.WISH, [(0,), (1,), (1, 2)])
        self.no(self.STAND, self.WISH, [(0,), (1, 2), (1,)])
        self.no(self.STAND, self.WISH, [(0,), (1, 2), (2,)])
        self.no(self.STAND, self.WISH, [(0,), (1, 2), (1, 2, 3)])
        self.no(self.STAND, self.WISH, [(), (1, 2), (1, 2)])
        self.no(self.STAND, self.WISH, [(), (), ()])
        self.no(self.STAND, self.WISH, [(1,), (1, 2), (1, 2)])

    def test_more_numbers_must_lead_on_too(self):
        self.no(self.STAND, self.WISH, [(0,), (1, 2, 3), (1, 2)])
        self.no(self.STAND, self.WISH, [(0,), (1, 2, 3), (1, 2, 3)])
        self.yes(self.STAND, self.WISH, [(0, 1), (1, 2), (1, 2)])
        self.no(self.STAND, self.WISH, [(0, 3), (1, 2), (1, 2)])

    def test_numbers_that_no_door_has(self):
        self.yes(self.STAND, self.WISH, [(-5, 0, 4), (-10 ** 30, 1, 2, 77), (-1, 1, 2, 10 ** 30)])
        self.no(self.STAND, self.WISH, [(-5, 4), (-10 ** 30, 1, 2, 77), (-1, 1, 2, 10 ** 30)])

    def test_doors_of_worths_that_the_name_has_not(self):
        doors = ((0, 5, 1), (0, 6, 3))
        self.yes(((5,), (6,)), ("row", (0,), doors, (3,)), [(0,), (1,)])
        self.no(((5,), (6,)), ("row", (1,), doors, (3,)), [(0,), (1,)])
        self.yes(((5,), (6,)), ("row", (1,), doors, (1,)), [(0,), (3,)])

    def test_any_of_several_ends(self):
        for ends in ((1,), (2,), (1, 2), (0, 1, 3), (2, 3), (0, 1, 2, 3)):
            self.no(self.STAND, self.WISH[:3] + (ends,), [(0,), (1, 2), (1, 2)])
        for ends in ((), (0,), (3,), (0, 3)):
            self.yes(self.STAND, self.WISH[:3] + (ends,), [(0,), (1, 2), (1, 2)])


if __name__ == "__main__":
    unittest.main()
