import copy
import unittest

from wishstrike.fillings import first, how_many

from draws import drawn_with_wishes
from points import fulfilling_all


class Fillings(unittest.TestCase):
    def test_held_against_all_fillings(self):
        came_up = {}
        for stand, wishes in drawn_with_wishes(8, 2500):
            kept = copy.deepcopy((stand, wishes))
            wanted = fulfilling_all(stand, wishes)
            many = how_many(stand, wishes)
            self.assertEqual(many, len(wanted), (stand, wishes))
            self.assertIs(type(many), int)
            found = first(stand, wishes)
            self.assertEqual(found, wanted[0] if wanted else None, (stand, wishes))
            self.assertIs(type(found), tuple if wanted else type(None))
            self.assertEqual((stand, wishes), kept)
            key = (len(wishes), min(many, 2))
            came_up[key] = came_up.get(key, 0) + 1
        for wishes in (1, 2, 3):
            for many in (0, 1, 2):
                self.assertGreater(came_up[wishes, many], 20)

    def test_no_wishes(self):
        self.assertEqual(how_many(((0, 1, 2, 3),) * 4, []), 256)
        self.assertEqual(first(((0, 1, 2, 3),) * 4, []), (0, 0, 0, 0))
        self.assertEqual((how_many(((-9,),), []), first(((-9,),), [])), (1, (-9,)))

    def test_in_order(self):
        stand = ((-2, 0), (-3, 1), (5, 7))
        self.assertEqual(first(stand, [("sum", (0, 1), (1, 1), 1, 9)]), (0, 1, 5))
        self.assertEqual(first(stand, [("sum", (0, 1, 2), (1, 1, 1), 4, 9)]), (-2, 1, 5))
        self.assertEqual(first(stand, [("sum", (2,), (1,), 6, 9)]), (-2, -3, 7))
        self.assertEqual(first(((-9, 9), (-9, 9)), [("unlike", (1, 0))]), (-9, 9))

    def test_all_must_be_fulfilled(self):
        stand = ((0, 1, 2), (0, 1, 2))
        wishes = [("unlike", (0, 1)), ("sum", (0, 1), (1, 1), 2, 2), ("sum", (0,), (1,), 1, 2)]
        self.assertEqual((how_many(stand, wishes), first(stand, wishes)), (1, (2, 0)))
        self.assertEqual((how_many(stand, wishes[:2]), first(stand, wishes[:2])), (2, (0, 2)))
        never = [("unlike", (0, 1)), ("many", (0, 1), ((0, 2, 2),))]
        self.assertEqual((how_many(stand, never), first(stand, never)), (0, None))

    def test_nothing_is_kept(self):
        wishes = [("unlike", (0, 1))]
        self.assertEqual(how_many(((0, 1), (0, 1)), wishes), 2)
        wishes.append(("sum", (0,), (1,), 1, 1))
        self.assertEqual((how_many(((0, 1), (0, 1)), wishes), first(((0, 1), (0, 1)), wishes)), (1, (1, 0)))
        wishes.clear()
        self.assertEqual(how_many(((0, 1), (0, 1)), wishes), 4)


if __name__ == "__main__":
    unittest.main()
