import itertools
import unittest

from wishstrike.unlike import unlike_can, unlike_paper

from cases import PaperCase
from draws import drawn
from points import right_by_10

SETS = tuple(worths for size in (1, 2, 3) for worths in itertools.combinations((0, 1, 2), size))


class UnlikeCase(PaperCase):
    def can(self, stand, wish):
        return unlike_can(stand, wish)

    def paper(self, stand, wish, paper):
        return unlike_paper(stand, wish, paper)

    def right(self, stand, wish, paper):
        return right_by_10(stand, wish, paper)


class Can(UnlikeCase):
    def test_all_stands_of_three_worths(self):
        for many in (1, 2, 3):
            for stand in itertools.product(SETS, repeat=many):
                for size in range(1, many + 1):
                    for names in itertools.permutations(range(many), size):
                        self.told(stand, ("unlike", names))

    def test_drawn(self):
        many = self.all_told(drawn("unlike", 6000))
        for names in (2, 3, 4):
            self.assertGreater(many["can", names], 20)
            self.assertGreater(many["no", names], 20)
        self.assertGreater(many["can", 1], 20)
        self.assertNotIn(("no", 1), many)

    def test_four_names_and_four_worths(self):
        self.assertEqual(self.told(((0, 1, 2, 3),) * 4, ("unlike", (2, 0, 3, 1)))[0], "can")
        self.assertEqual(self.told(((-9, 0, 9),) * 4, ("unlike", (2, 0, 3, 1))), ("no", (0, 1, 2, 3)))

    def test_one_filling_alone(self):
        stand = ((0, 1, 2, 3), (1, 2, 3), (2, 3), (3,))
        for names in itertools.permutations(range(4)):
            self.assertEqual(unlike_can(stand, ("unlike", names)), ("can", (0, 1, 2, 3)))

    def test_one_paper_alone(self):
        stand = ((0, 1), (5, 6, 7, 8), (0, 1), (0, 1))
        for names in itertools.permutations(range(4)):
            self.assertEqual(unlike_can(stand, ("unlike", names)), ("no", (0, 2, 3)))
        self.assertEqual(unlike_can(stand, ("unlike", (3, 1, 0)))[0], "can")

    def test_names_that_are_not_the_wishs_take_any_worth(self):
        self.assertEqual(unlike_can(((0,), (0, 1), (0,)), ("unlike", (1, 0))), ("can", (0, 1, 0)))


class Papers(UnlikeCase):
    def test_all_short_tuples(self):
        stands = (
            ((0,), (0,), (0,), (0,)),
            ((0, 1), (0, 1), (0, 1), (0,)),
            ((0, 1), (1, 2), (0, 2), (0, 1, 2)),
            ((0, 1, 2), (0,), (0, 2), (5, 6, 7, 8)),
            ((-9, 9), (9,), (-9,)),
        )
        came_up = set()
        for stand in stands:
            papers = [paper for size in range(5) for paper in itertools.product(range(-1, 5), repeat=size)]
            for names in ((0, 1), (2, 1, 0), (2,), tuple(range(len(stand)))):
                came_up |= self.looked_over(stand, ("unlike", names), papers)
        self.assertEqual(came_up, {True, False})

    def test_drawn(self):
        papers = [paper for size in range(5) for paper in itertools.combinations(range(4), size)]
        for stand, wish in drawn("unlike", 1500):
            came_up = self.looked_over(stand, wish, papers)
            self.assertEqual(True in came_up, unlike_can(stand, wish)[0] == "no")

    def test_just_enough_and_one_too_few(self):
        for many in (2, 3, 4):
            names = tuple(range(many))
            self.no((tuple(range(many)),) * many, ("unlike", names), names)
            self.yes((tuple(range(many - 1)),) * many, ("unlike", names), names)
            self.yes((tuple(range(many - 1)),) * many, ("unlike", names[::-1]), names)

    def test_empty(self):
        self.no(((0,), (0,)), ("unlike", (0, 1)), ())
        self.no(((0,), (1,)), ("unlike", (0, 1)), ())

    def test_not_rising(self):
        stand = ((0,), (0,), (0,))
        self.yes(stand, ("unlike", (2, 0, 1)), (0, 2))
        for paper in ((2, 0), (0, 0), (0, 0, 2), (0, 2, 2), (0, 2, 1), (2, 0, 1)):
            self.no(stand, ("unlike", (2, 0, 1)), paper)

    def test_one_name_is_never_too_many(self):
        for name in range(3):
            self.no(((0,), (0,), (0,)), ("unlike", (0, 1, 2)), (name,))

    def test_names_that_are_not_the_wishs(self):
        stand = ((0,), (0,), (0,), (0,))
        self.yes(stand, ("unlike", (0, 1)), (0, 1))
        for paper in ((0, 2), (0, 1, 2), (2, 3), (-1, 0), (-4, -3), (-2, -1), (0, 4), (0, 1, 4), (0, 1, 10 ** 30),
                      (-10 ** 30, 0, 1), (98, 99)):
            self.no(stand, ("unlike", (0, 1)), paper)

    def test_other_names_worths_do_not_count(self):
        stand = ((0, 1), (0, 1), (5,), (0, 1))
        self.yes(stand, ("unlike", (0, 1, 2, 3)), (0, 1, 3))
        self.no(stand, ("unlike", (0, 1, 2, 3)), (0, 1, 2))
        self.yes(stand, ("unlike", (0, 1, 2, 3)), (0, 1, 2, 3))

    def test_papers_of_other_kinds(self):
        stand = ((0,), (0,))
        for paper in (("names", (0, 1)), ("worths", (0,)), ("late", (0, 1)), [(0,), (0,), (0,)], []):
            self.no(stand, ("unlike", (0, 1)), paper)


if __name__ == "__main__":
    unittest.main()
