import itertools
import unittest

from wishstrike.many import many_can, many_paper

from cases import PaperCase
from draws import drawn
from points import right_by_11


def some_of(things):
    return [some for size in range(len(things) + 1) for some in itertools.combinations(things, size)]


class ManyCase(PaperCase):
    def can(self, stand, wish):
        return many_can(stand, wish)

    def paper(self, stand, wish, paper):
        return many_paper(stand, wish, paper)

    def right(self, stand, wish, paper):
        return type(paper) is tuple and len(paper) == 2 and right_by_11(stand, wish, paper)


class Can(ManyCase):
    def test_all_bounds_of_two_worths(self):
        spans = [(low, high) for low in range(4) for high in range(low, 4)]
        for stand in itertools.product(((0,), (1,), (0, 1), (1, 2)), repeat=3):
            for one, other in itertools.product(spans, repeat=2):
                self.told(stand, ("many", (2, 0, 1), ((0,) + one, (1,) + other)))

    def test_drawn(self):
        many = self.all_told(drawn("many", 6000))
        for told in itertools.product(("can", "no"), (1, 2, 3, 4)):
            self.assertGreater(many[told], 20)

    def test_no_bounds(self):
        for stand in (((0,),), ((0, 1), (5,), (-9, 9)), ((0,),) * 4):
            for size in range(1, len(stand) + 1):
                for names in itertools.permutations(range(len(stand)), size):
                    self.assertEqual(self.told(stand, ("many", names, ()))[0], "can")

    def test_one_filling_alone(self):
        stand = ((0, 1), (0, 1), (0, 1, 2), (0, 2))
        wish = ("many", (3, 1, 2, 0), ((0, 0, 0), (1, 2, 2), (2, 2, 4)))
        self.assertEqual(many_can(stand, wish), ("can", (1, 1, 2, 2)))

    def test_names_go_on_from_one_worth_to_another(self):
        stand = ((0, 1), (1, 2), (2, 3), (3, 4))
        bounds = ((1, 1, 1), (2, 1, 1), (3, 1, 1), (4, 1, 1))
        for names in itertools.permutations(range(4)):
            self.assertEqual(many_can(stand, ("many", names, bounds)), ("can", (1, 2, 3, 4)))
        for names in itertools.permutations(range(4)):
            told = many_can(stand, ("many", names, ((0, 1, 1), (1, 1, 1), (2, 1, 1), (3, 1, 1))))
            self.assertEqual(told, ("can", (0, 1, 2, 3)))

    def test_one_paper_alone(self):
        stand = ((0, 1), (0, 1), (0, 1), (5,))
        for names in itertools.permutations(range(4)):
            told = many_can(stand, ("many", names, ((0, 0, 1), (1, 0, 1))))
            self.assertEqual(told, ("no", ("names", (0, 1, 2))))
            told = many_can(stand, ("many", names, ((0, 2, 4), (1, 2, 4))))
            self.assertEqual(told, ("no", ("worths", (0, 1))))

    def test_a_worth_that_no_name_has(self):
        self.assertEqual(many_can(((0,), (1,)), ("many", (0, 1), ((7, 1, 4),))), ("no", ("worths", (7,))))
        self.assertEqual(many_can(((0,), (1,)), ("many", (0, 1), ((7, 0, 0),)))[0], "can")

    def test_names_that_are_not_the_wishs_do_not_count(self):
        self.assertEqual(many_can(((0,), (0,)), ("many", (1,), ((0, 2, 4),))), ("no", ("worths", (0,))))
        self.assertEqual(many_can(((0,), (0,)), ("many", (1,), ((0, 0, 1),))), ("can", (0, 0)))


class Papers(ManyCase):
    def test_all_short_tuples(self):
        stands = (
            ((0,), (0,), (0,), (0,)),
            ((0, 1), (0, 1), (0, 1), (0,)),
            ((0, 1), (1, 2), (0, 2), (3,)),
        )
        some = (
            (), ((0, 0, 1),), ((0, 0, 0), (1, 0, 0)), ((0, 0, 1), (1, 0, 1)), ((0, 2, 3), (1, 2, 2)),
            ((0, 1, 1), (1, 1, 1), (2, 1, 1)), ((-1, 1, 4), (0, 4, 4), (3, 0, 0)), ((1, 3, 3), (2, 1, 2)),
        )
        tuples = [numbers for size in range(4) for numbers in itertools.product(range(-1, 5), repeat=size)]
        for word in ("names", "worths"):
            papers = [(word, numbers) for numbers in tuples]
            came_up = set()
            for stand, bounds in itertools.product(stands, some):
                for names in ((0, 1), (3, 1, 0, 2), (2,)):
                    came_up |= self.looked_over(stand, ("many", names, bounds), papers)
            self.assertEqual(came_up, {True, False})

    def test_drawn(self):
        for stand, wish in drawn("many", 1500):
            worths = sorted({worth for worths in stand for worth in worths} | {bound[0] for bound in wish[2]})
            papers = [("names", some) for some in some_of(range(4))] + [("worths", some) for some in some_of(worths[:8])]
            came_up = self.looked_over(stand, wish, papers)
            if many_can(stand, wish)[0] == "can":
                self.assertEqual(came_up, {False})

    def test_names_just_enough_and_one_too_few(self):
        stand = ((0, 1), (0, 1), (1,), (0,))
        for high in range(4):
            wish = ("many", (0, 3, 1, 2), ((0, 0, high), (1, 0, 2)))
            answer = high + 2 < 4
            self.assertIs(many_paper(stand, wish, ("names", (0, 1, 2, 3))), answer)
        self.yes(((0,), (0,)), ("many", (0, 1), ((0, 0, 1),)), ("names", (0, 1)))
        self.no(((0,), (0,)), ("many", (0, 1), ((0, 0, 2),)), ("names", (0, 1)))
        self.yes(((0,), (0,)), ("many", (0, 1), ((0, 0, 0),)), ("names", (1,)))

    def test_worths_just_enough_and_one_too_few(self):
        stand = ((0, 1), (0, 2), (1, 2), (3,))
        for low in range(5):
            wish = ("many", (0, 3, 1, 2), ((0, 1, 4), (1, low, 4), (3, 4, 4)))
            self.assertIs(many_paper(stand, wish, ("worths", (0, 1))), 1 + low > 3)
            self.assertIs(many_paper(stand, wish, ("worths", (1,))), low > 2)
        self.yes(((0,), (0,)), ("many", (0,), ((0, 2, 4),)), ("worths", (0,)))
        self.no(((0,), (0,)), ("many", (0, 1), ((0, 2, 4),)), ("worths", (0,)))

    def test_a_worth_without_bounds_has_room(self):
        stand = ((0,), (0, 5))
        self.no(stand, ("many", (0, 1), ((0, 0, 0),)), ("names", (0, 1)))
        self.yes(stand, ("many", (0, 1), ((0, 0, 0),)), ("names", (0,)))
        self.yes(stand, ("many", (0, 1), ((0, 0, 0), (5, 0, 1))), ("names", (0, 1)))

    def test_bounds_of_other_worths_do_not_count(self):
        stand = ((0,), (0,), (5,))
        self.yes(stand, ("many", (0, 1, 2), ((0, 0, 1), (5, 0, 4))), ("names", (0, 1)))
        self.no(stand, ("many", (0, 1, 2), ((0, 0, 1), (5, 0, 4))), ("names", (0, 1, 2)))
        self.no(stand, ("many", (0, 1, 2), ((0, 0, 4), (5, 3, 4))), ("worths", (0,)))
        self.yes(stand, ("many", (0, 1, 2), ((0, 0, 4), (5, 3, 4))), ("worths", (5,)))

    def test_empty(self):
        for bounds in ((), ((0, 0, 0),), ((0, 4, 4),)):
            self.no(((0,), (0,)), ("many", (0, 1), bounds), ("names", ()))
            self.no(((0,), (0,)), ("many", (0, 1), bounds), ("worths", ()))

    def test_not_rising(self):
        stand = ((0, 1), (0, 1), (0, 1))
        crowded = ("many", (2, 1, 0), ((0, 0, 0), (1, 0, 0)))
        asked = ("many", (2, 1, 0), ((0, 4, 4), (1, 4, 4)))
        self.yes(stand, crowded, ("names", (0, 1, 2)))
        self.yes(stand, asked, ("worths", (0, 1)))
        for some in ((1, 0), (0, 0), (0, 0, 1), (0, 1, 1), (1, 1), (0, 1, 0)):
            self.no(stand, crowded, ("names", some))
            self.no(stand, asked, ("worths", some))

    def test_names_and_worths_that_are_not_the_wishs(self):
        stand = ((0,), (0,), (0,))
        crowded = ("many", (0, 1), ((0, 0, 0),))
        asked = ("many", (0, 1), ((0, 4, 4),))
        self.yes(stand, crowded, ("names", (0, 1)))
        self.yes(stand, asked, ("worths", (0,)))
        for some in ((2,), (0, 2), (0, 1, 2), (-1,), (-1, 0), (-3, -2), (0, 3), (0, 10 ** 30), (-10 ** 30, 0), (9,)):
            self.no(stand, crowded, ("names", some))
            self.no(stand, asked, ("worths", some))
        self.no(stand, asked, ("worths", (1,)))
        self.no(stand, ("many", (0, 1), ()), ("worths", (0,)))
        self.no(stand, ("many", (0, 1), ()), ("names", (0,)))

    def test_one_words_tuple_is_not_the_others(self):
        self.no(((5,), (5,)), ("many", (0, 1), ((5, 0, 1),)), ("worths", (0, 1)))
        self.no(((0,), (0,)), ("many", (0, 1), ((0, 0, 1), (1, 0, 0))), ("worths", (0, 1)))
        self.no(((0,), (1,)), ("many", (0, 1), ((0, 2, 4), (1, 2, 4))), ("names", (0, 1)))

    def test_papers_of_other_kinds(self):
        wish = ("many", (0, 1), ((0, 0, 0),))
        for paper in ((), (0,), (0, 1), (0, 1, 2), ("late", (0, 1)), ("first", 0, 1, ("late", ()), ("late", ())),
                      [], [(0,), (0,)], [(0,), (0,), (0,)]):
            self.no(((0,), (0,)), wish, paper)
        asked = ("many", (0, 1), ((0, 4, 4), (1, 4, 4)))
        self.yes(((0,), (0,)), asked, ("worths", (0, 1)))
        self.no(((0,), (0,)), asked, ("late", (0, 1)))


if __name__ == "__main__":
    unittest.main()
