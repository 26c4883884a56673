import itertools
import unittest

from wishstrike.things import is_filling, is_stand, is_wish

from samples import NEVER, STANDS, WISHES, never_right


class Stands(unittest.TestCase):
    def yes(self, thing):
        with self.subTest(thing):
            self.assertIs(is_stand(thing), True)

    def no(self, thing):
        with self.subTest(thing):
            self.assertIs(is_stand(thing), False)

    def test_ordinary(self):
        for stand in STANDS:
            self.yes(stand)

    def test_how_many_names(self):
        self.no(())
        for many in range(1, 5):
            self.yes(((0, 1),) * many)
        self.no(((0, 1),) * 5)

    def test_how_many_worths(self):
        for many in range(1, 5):
            self.yes(((5,), tuple(range(many))))
        self.no(((5,), ()))
        self.no(((),))
        self.no(((5,), (0, 1, 2, 3, 4)))

    def test_bounds_of_worths(self):
        self.yes(((-9, 9),))
        for worth in (-11, -10, 10, 11, 10 ** 30):
            self.no(((worth,),))
        self.no(((-10, 0),))
        self.no(((0, 10),))
        self.no(((0,), (0,), (0,), (10,)))

    def test_worths_are_rising(self):
        for worths in itertools.product((-1, 0, 2), repeat=3):
            answer = worths[0] < worths[1] < worths[2]
            with self.subTest(worths):
                self.assertIs(is_stand(((7,), worths)), answer)
        self.no(((0, 0),))
        self.no(((1, 0),))
        self.no(((0, 2, 1),))

    def test_truths_are_no_worths(self):
        for worths in ((True,), (False,), (False, True), (0, True), (False, 1), (-1, True, 2)):
            self.no((worths,))
            self.no(((0,), worths))

    def test_a_part_made_wrong(self):
        for stand in STANDS:
            for thing in never_right(stand):
                self.no(thing)

    def test_lists(self):
        self.no([(0, 1)])
        self.no(([0, 1],))
        self.no([[0, 1]])
        self.no(((0, 1), [0, 1]))

    def test_other_things(self):
        for thing in NEVER + WISHES + (0, (((0,),),), ("unlike",), "((0,),)"):
            self.no(thing)
            self.no((thing,))
        self.no((0,))
        self.no((1, 2))


class OfAnything(unittest.TestCase):
    def anything(self):
        layer = [0, -1, True, None, "unlike", (), []]
        found = list(layer)
        for size in (1, 2):
            for parts in itertools.product(layer, repeat=size):
                found += [tuple(parts), list(parts)]
        for depth in range(3):
            found += [("unlike", thing) for thing in found[:120]] + [[thing] for thing in found[-40:]]
            found += [(thing, thing) for thing in found[-40:]]
        return found

    def test_a_truth_is_told(self):
        for thing in self.anything():
            with self.subTest(thing):
                self.assertIn(is_stand(thing), (True, False))
                self.assertIs(type(is_stand(thing)), bool)
                self.assertIs(type(is_wish(thing)), bool)
                self.assertIs(type(is_filling(((0,), (-1, 0)), thing)), bool)


class Fillings(unittest.TestCase):
    def test_every_tuple_of_worths(self):
        for stand in (((0, 1), (1, 2)), ((-2, 0, 1), (1,), (-1, 3)), ((2,),)):
            fillings = list(itertools.product(*stand))
            for size in range(5):
                for thing in itertools.product((-2, -1, 0, 1, 2, 3), repeat=size):
                    if is_filling(stand, thing) is not (thing in fillings):
                        self.fail(f"{stand!r} {thing!r}")

    def test_all_names_and_bounds(self):
        stand = STANDS[-1]
        for thing in itertools.product(*stand):
            self.assertIs(is_filling(stand, thing), True)
        self.assertIs(is_filling(stand, (-9, 0, -1, 3)), False)

    def test_worths_of_another_name(self):
        stand = ((0, 1), (2, 3))
        self.assertIs(is_filling(stand, (0, 2)), True)
        for thing in ((2, 0), (0, 0), (0, 1), (2, 2), (2, 3)):
            self.assertIs(is_filling(stand, thing), False)

    def test_truths_are_no_worths(self):
        stand = ((0, 1), (0, 1))
        for thing in ((True, 0), (0, True), (False, 1), (1, False), (True, True), (False, False)):
            self.assertIs(is_filling(stand, thing), False)

    def test_other_lengths(self):
        stand = ((0, 1), (0, 1))
        for thing in ((), (0,), (0, 0, 0), (0, 1, 0, 1), (1, 0, None)):
            self.assertIs(is_filling(stand, thing), False)

    def test_lists_and_other_things(self):
        stand = ((0, 1), (0, 1))
        wrong = ([0, 1], [[0, 1]], ([0], 1), (0, [1]), ((0,), (1,)), ((0, 1),), ("0", "1"), "01", 0, 1)
        for thing in wrong + STANDS + tuple(thing for thing in NEVER if thing != (0, 0)):
            with self.subTest(thing):
                self.assertIs(is_filling(stand, thing), False)
        for part in NEVER:
            self.assertIs(is_filling(stand, (0, part)), False)
            self.assertIs(is_filling(stand, (part, 0)), False)

    def test_a_stand_somewhat_beyond_is_not_refused(self):
        stand = ((0, 1, 2, 3, 40),) * 5
        self.assertIs(is_filling(stand, (40, 0, 1, 2, 3)), True)
        self.assertIs(is_filling(stand, (40, 0, 1, 2, 4)), False)


if __name__ == "__main__":
    unittest.main()
