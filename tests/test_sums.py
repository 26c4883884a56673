import unittest

from wishstrike.sums import sum_can, sum_paper

from cases import PaperCase, WalkTests
from points import right_by_12


class SumCase(PaperCase):
    word = "sum"

    def can(self, stand, wish):
        return sum_can(stand, wish)

    def paper(self, stand, wish, paper):
        return sum_paper(stand, wish, paper)

    def right(self, stand, wish, paper):
        return right_by_12(stand, wish, paper)


class Walks(WalkTests, SumCase):
    def onward(self, wish, at, place, worth):
        return [place + worth * wish[2][at]]

    def ends(self, wish):
        low, high = wish[3:]
        return (low, high, (low + high) // 2)


class Can(SumCase):
    def test_every_low_and_high(self):
        stand = ((-1, 0, 2), (1, 3), (-9, 9))
        for names, weights in (((0, 1), (1, 2)), ((2, 0, 1), (-1, 3, 0)), ((2,), (-3,)), ((1, 0, 2), (3, 3, 3))):
            for low in range(-40, 41):
                for high in (low, low + 1, low + 3):
                    self.told(stand, ("sum", names, weights, low, high))

    def test_bounds_far_off(self):
        stand = ((-9, 9),) * 4
        weights = (3, -3, 3, -3)
        names = (3, 0, 2, 1)
        self.assertEqual(sum_can(stand, ("sum", names, weights, 99, 99))[0], "no")
        self.assertEqual(sum_can(stand, ("sum", names, weights, -99, -99))[0], "no")
        self.assertEqual(self.told(stand, ("sum", names, weights, -99, 99))[0], "can")
        self.assertEqual(self.told(stand, ("sum", names, weights, 54, 99))[0], "can")
        self.assertEqual(self.told(stand, ("sum", names, weights, 55, 99))[0], "no")

    def test_one_filling_alone(self):
        stand = ((0, 1, 2, 3), (-2, 5), (7, 8, 9))
        self.assertEqual(sum_can(stand, ("sum", (2, 0, 1), (-1, 3, 1), 7, 7)), ("can", (3, 5, 7)))
        self.assertEqual(sum_can(stand, ("sum", (1, 0, 2), (-1, -3, 1), 11, 99)), ("can", (0, -2, 9)))

    def test_weights_of_nothing(self):
        self.assertEqual(self.told(((1, 2), (3,)), ("sum", (1, 0), (0, 0), 0, 0))[0], "can")
        self.assertEqual(self.told(((1, 2), (3,)), ("sum", (1, 0), (0, 0), 1, 99))[0], "no")


class Papers(SumCase):
    STAND = ((0, 2), (1,))
    WISH = ("sum", (0, 1), (1, 3), 4, 4)
    LEAST = [(0,), (0, 2), (3, 5)]

    def test_ordinary(self):
        self.yes(self.STAND, self.WISH, self.LEAST)
        self.yes(self.STAND, self.WISH, [(0,), (0, 2), (-7, 3, 5, 99)])
        self.no(self.STAND, self.WISH, [(0,), (0, 2), (3, 4, 5)])
        self.no(self.STAND, self.WISH, [(0,), (2,), (3, 5)])
        self.no(self.STAND, self.WISH, [(0,), (0, 2), (3,)])
        self.no(self.STAND, self.WISH, [(), (0, 2), (3, 5)])
        self.no(self.STAND, self.WISH, [(), (), ()])

    def test_more_numbers_must_lead_on_too(self):
        self.yes(self.STAND, self.WISH, [(0,), (0, 2, 3), (3, 5, 6)])
        self.no(self.STAND, self.WISH, [(0,), (0, 2, 3), (3, 5)])
        self.no(self.STAND, self.WISH, [(0,), (0, 1, 2), (3, 4, 5)])
        self.yes(self.STAND, self.WISH, [(-20, 0), (-20, -18, 0, 2), (-17, -15, 3, 5)])
        self.no(self.STAND, self.WISH, [(-20, 0), (-20, 0, 2), (-17, 3, 5)])

    def test_low_and_high_themselves_are_within(self):
        for low, high in ((4, 4), (4, 6), (2, 4), (-99, 4), (4, 99)):
            wish = ("sum", (0,), (1,), low, high)
            self.no(((4,),), wish, [(0,), (4,)])
        for low, high in ((5, 5), (5, 99), (3, 3), (-99, 3)):
            self.yes(((4,),), ("sum", (0,), (1,), low, high), [(0,), (4,)])

    def test_names_in_the_wishs_order(self):
        stand = ((1,), (5,))
        self.yes(stand, ("sum", (0, 1), (1, 1), 0, 0), [(0,), (1,), (6,)])
        self.no(stand, ("sum", (0, 1), (1, 1), 0, 0), [(0,), (5,), (6,)])
        self.yes(stand, ("sum", (1, 0), (1, 1), 0, 0), [(0,), (5,), (6,)])
        self.no(stand, ("sum", (1, 0), (1, 1), 0, 0), [(0,), (1,), (6,)])
        self.yes(stand, ("sum", (1, 0), (2, -3), 0, 0), [(0,), (10,), (7,)])


if __name__ == "__main__":
    unittest.main()
