import copy
import unittest

from wishstrike.papers import can, is_paper, struck

from bends import OF_EACH_KIND, bent_papers
from cases import PaperCase
from draws import WORDS, drawn
from points import fulfilling, is_right, settled_by_8, struck_by_8


class AnyCase(PaperCase):
    def can(self, stand, wish):
        return can(stand, wish)

    def paper(self, stand, wish, paper):
        return is_paper(stand, wish, paper)

    def right(self, stand, wish, paper):
        return is_right(stand, wish, paper)


def never(word, many):
    """Of so many drawn those that can't be, each with the paper that is told."""
    return [(stand, wish, can(stand, wish)[1]) for stand, wish in drawn(word, many) if not fulfilling(stand, wish)]


class Can(AnyCase):
    def test_drawn_of_each_kind(self):
        for word in WORDS:
            many = self.all_told(drawn(word, 2500))
            for names in (2, 3, 4):
                self.assertGreater(many["can", names], 5, word)
                self.assertGreater(many["no", names], 5, word)

    def test_what_is_told_is_new(self):
        for word in WORDS:
            for stand, wish, paper in never(word, 60):
                kept = copy.deepcopy((stand, wish, paper))
                told = can(stand, wish)
                if isinstance(told[1], list):
                    told[1].clear()
                    self.assertIsNot(can(stand, wish)[1], paper)
                self.assertEqual((stand, wish, can(stand, wish)[1]), kept)


class Papers(AnyCase):
    def test_bent(self):
        for word in WORDS:
            came_up = {True: 0, False: 0}
            for stand, wish, paper in never(word, 120):
                self.yes(stand, wish, paper)
                for bent in bent_papers(wish, paper)[::3]:
                    for truth in self.looked_over(stand, wish, [bent]):
                        came_up[truth] += 1
            self.assertGreater(came_up[True], 10, word)
            self.assertGreater(came_up[False], 50, word)

    def test_none_is_right_where_the_wish_can_be(self):
        for word in WORDS:
            papers = [paper for stand, wish, paper in never(word, 150)][:12] + list(OF_EACH_KIND)
            for stand, wish in drawn(word, 200):
                if fulfilling(stand, wish):
                    for paper in papers:
                        self.no(stand, wish, paper)

    def test_held_against_other_stands_and_wishes(self):
        for word in WORDS:
            told = never(word, 150)
            came_up = set()
            for stand, wish, paper in told:
                came_up |= self.looked_over(stand, wish, [other for _, _, other in told[::4]])
                for name, worths in enumerate(stand):
                    for worth in worths:
                        self.yes(settled_by_8(stand, name, worth), wish, paper)
                    if len(worths) < 4:
                        more = tuple(sorted({*worths, 0, 5}))[:4]
                        came_up |= self.looked_over(stand[:name] + (more,) + stand[name + 1:], wish, [paper])
            self.assertEqual(came_up, {True, False}, word)

    def test_a_paper_of_the_settled_stand_held_against_the_whole(self):
        for word in WORDS:
            came_up = set()
            for stand, wish in drawn(word, 100):
                for name, worth in struck_by_8(stand, wish):
                    left = settled_by_8(stand, name, worth)
                    paper = self.told(left, wish)[1]
                    self.yes(left, wish, paper)
                    came_up |= self.looked_over(stand, wish, [paper])
            self.assertEqual(came_up, {True, False}, word)

    def test_of_each_kind(self):
        for word in WORDS:
            for stand, wish in drawn(word, 80):
                self.looked_over(stand, wish, OF_EACH_KIND)

    def test_what_is_handed_in_is_not_kept(self):
        for word in ("sum", "row"):
            for stand, wish, paper in never(word, 60):
                ours = list(paper)
                self.yes(stand, wish, ours)
                ours.pop()
                self.no(stand, wish, ours)
                self.yes(stand, wish, paper)


class Struck(unittest.TestCase):
    def test_held_against_all_fillings(self):
        for word in WORDS:
            came_up = {"none": 0, "some": 0, "all": 0}
            for stand, wish in drawn(word, 700):
                told = struck(stand, wish)
                of_names = [(name, worth) for name, worth in struck_by_8(stand, wish) if name in wish[1]]
                self.assertEqual(told, of_names, (stand, wish))
                self.assertIs(type(told), list)
                self.assertTrue(all(type(pair) is tuple for pair in told))
                everything = sum(len(stand[name]) for name in wish[1])
                came_up["none" if not told else "all" if len(told) == everything else "some"] += 1
            self.assertGreater(min(came_up.values()), 3, (word, came_up))

    def test_rising_whatever_the_order_of_names(self):
        stand = ((0, 1), (0,), (0, 2), (2,))
        for names in ((0, 1, 2, 3), (3, 2, 1, 0), (2, 0, 3, 1)):
            self.assertEqual(struck(stand, ("unlike", names)), [(0, 0), (0, 1), (1, 0), (2, 0), (2, 2), (3, 2)])
        for names in ((0, 1), (1, 0)):
            self.assertEqual(struck(stand, ("unlike", names)), [(0, 0)])

    def test_names_that_are_not_the_wishs(self):
        self.assertEqual(struck(((0, 1), (5, 6), (0,)), ("unlike", (2, 0))), [(0, 0)])
        self.assertEqual(struck(((0,), (5, 6), (0,)), ("unlike", (2, 0))), [(0, 0), (2, 0)])
        self.assertEqual(struck(((0, 1), (5, 6)), ("row", (1,), (), (0,))), [(1, 5), (1, 6)])

    def test_of_each_kind(self):
        self.assertEqual(struck(((0, 1), (0,)), ("many", (0, 1), ((0, 0, 1),))), [(0, 0)])
        self.assertEqual(struck(((0, 1), (0, 3)), ("sum", (1, 0), (1, -1), 2, 2)), [(0, 0), (1, 0)])
        self.assertEqual(struck(((0, 1), (0, 1)), ("row", (1, 0), ((0, 1, 1), (1, 0, 2), (1, 1, 3)), (2,))),
                         [(0, 1), (1, 0)])
        self.assertEqual(struck(((0, 1, 2), (1,)), ("hand", (0, 1), (1, 1))), [(0, 1)])
        self.assertEqual(struck(((0, 1, 2), (1,)), ("hand", (0, 1), (2, 2))), [(0, 0), (0, 1), (0, 2), (1, 1)])
        self.assertEqual(struck(((0, 1, 2), (1,)), ("hand", (0,), (4,))), [])

    def test_a_new_list_each_time(self):
        stand = ((0, 1), (0,))
        wish = ("unlike", (0, 1))
        told = struck(stand, wish)
        told.append((9, 9))
        again = struck(stand, wish)
        self.assertEqual(again, [(0, 0)])
        again.clear()
        self.assertEqual(struck(stand, wish), [(0, 0)])
        nothing = struck(((0,), (1,)), wish)
        nothing.append(None)
        self.assertEqual(struck(((0,), (1,)), wish), [])
        self.assertEqual((stand, wish), (((0, 1), (0,)), ("unlike", (0, 1))))


if __name__ == "__main__":
    unittest.main()
