import itertools
import unittest

from wishstrike.hands import hand_can, hand_paper

from bends import OF_EACH_KIND, bent_trees
from cases import PaperCase
from draws import drawn
from points import fulfilling, is_tree, right_by_14, settled_by_8


class HandCase(PaperCase):
    def can(self, stand, wish):
        return hand_can(stand, wish)

    def paper(self, stand, wish, paper):
        return hand_paper(stand, wish, paper)

    def right(self, stand, wish, paper):
        return is_tree(paper) and right_by_14(stand, wish, paper)


def splits_deep(tree):
    return 1 + max(splits_deep(tree[3]), splits_deep(tree[4])) if tree[0] == "first" else 0


def chain(some):
    """A tree that tells 0 ahead of 1, 1 of 2, 2 of 3 on the way to a leaf; for worths that rise by names."""
    far = ("first", 2, 3, ("late", some), ("late", (3, 2)))
    return ("first", 0, 1, ("first", 1, 2, far, ("late", (2, 1))), ("late", (1, 0)))


class Can(HandCase):
    def test_all_stands_of_three_worths(self):
        sets = [worths for size in (1, 2, 3) for worths in itertools.combinations((0, 1, 3), size)]
        for many in (1, 2, 3):
            for stand in itertools.product(sets, repeat=many):
                for names in (tuple(range(many)), tuple(range(many))[::-1]):
                    for lengths in itertools.product((1, 2), repeat=many):
                        self.told(stand, ("hand", names, lengths))

    def test_drawn(self):
        many = self.all_told(drawn("hand", 6000))
        for names in (2, 3, 4):
            self.assertGreater(many["can", names], 20)
            self.assertGreater(many["no", names], 20)
        self.assertGreater(many["can", 1], 20)
        self.assertNotIn(("no", 1), many)

    def test_names_in_every_order(self):
        for stand in (((0, 1, 2), (0, 2), (1, 4), (3, 5)), ((0, 1, 2, 3),) * 4, ((-9, 0), (-8, 1), (-7, 2), (-6, 3))):
            for many in (1, 2, 3, 4):
                for names in itertools.permutations(range(4), many):
                    for lengths in ((1, 1, 1, 1), (1, 2, 1, 2), (3, 1, 2, 1), (4, 4, 4, 4)):
                        self.told(stand, ("hand", names, lengths[:many]))

    def test_one_filling_alone(self):
        stand = ((0, 1), (0, 3), (2,))
        for order in itertools.permutations(((0, 2), (1, 4), (2, 1))):
            names, lengths = zip(*order)
            self.assertEqual(hand_can(stand, ("hand", names, lengths)), ("can", (0, 3, 2)))

    def test_ends_where_the_next_one_begins(self):
        self.assertEqual(hand_can(((5,), (1,)), ("hand", (0, 1), (1, 4))), ("can", (5, 1)))
        self.assertEqual(hand_can(((5,), (2,)), ("hand", (0, 1), (1, 4)))[0], "no")
        self.assertEqual(hand_can(((9,), (-9,)), ("hand", (0, 1), (4, 4))), ("can", (9, -9)))

    def test_names_that_are_not_the_wishs_take_any_worth(self):
        self.assertEqual(hand_can(((0,), (0, 1), (0,)), ("hand", (1, 0), (1, 1))), ("can", (0, 1, 0)))

    def test_one_name_can_always_be(self):
        for length in (1, 2, 3, 4):
            self.assertEqual(self.told(((3,), (-9, 9)), ("hand", (1,), (length,)))[0], "can")

    def test_no_more_than_six_splits(self):
        deepest = 0
        for stand, wish in drawn("hand", 2000):
            told = hand_can(stand, wish)
            if told[0] == "no":
                deepest = max(deepest, splits_deep(told[1]))
        self.assertIn(deepest, (3, 4, 5, 6))


class Papers(HandCase):
    TWO = ((0, 1), (0, 1))
    PAIR = ("hand", (0, 1), (2, 2))
    TREE = ("first", 0, 1, ("late", (0, 1)), ("late", (1, 0)))

    def test_ordinary(self):
        self.yes(self.TWO, self.PAIR, self.TREE)
        self.yes(self.TWO, ("hand", (1, 0), (2, 2)), self.TREE)
        self.yes(self.TWO, self.PAIR, ("first", 1, 0, ("late", (1, 0)), ("late", (0, 1))))
        self.no(((0, 1, 2), (0, 1)), self.PAIR, self.TREE)
        self.no(((0, 1), (0, 1, 2)), self.PAIR, self.TREE)

    def test_halves_exchanged(self):
        self.no(self.TWO, self.PAIR, ("first", 0, 1, ("late", (1, 0)), ("late", (0, 1))))
        self.no(self.TWO, self.PAIR, ("first", 1, 0, ("late", (0, 1)), ("late", (1, 0))))
        self.no(self.TWO, self.PAIR, ("first", 0, 1, ("late", (0, 1)), ("late", (0, 1))))
        self.no(self.TWO, self.PAIR, ("first", 0, 1, ("late", (1, 0)), ("late", (1, 0))))

    def test_a_split_of_a_name_with_itself(self):
        for name in (0, 1):
            self.no(self.TWO, self.PAIR, ("first", name, name, self.TREE, self.TREE))
            self.no(self.TWO, self.PAIR, ("first", 0, 1, ("first", name, name, ("late", (0, 1)), ("late", (0, 1))),
                                          ("late", (1, 0))))

    def test_a_split_of_names_that_are_not_the_wishs(self):
        stand = self.TWO + ((0,), (0,))
        self.yes(stand, self.PAIR, self.TREE)
        for name in (2, 3, 4, -1, -3, -4, 99, -10 ** 30, 10 ** 30):
            for pair in ((0, name), (name, 0), (1, name), (name, 1), (name, name), (name, 3)):
                self.no(stand, self.PAIR, ("first",) + pair + (self.TREE, self.TREE))
                self.no(stand, self.PAIR, self.TREE[:4] + (("first",) + pair + (("late", (1, 0)), ("late", (1, 0))),))

    def test_splits_that_need_not_be(self):
        three = ("hand", (2, 0, 1), (1, 2, 2))
        stand = self.TWO + ((9,),)
        for pair in ((0, 2), (2, 1), (0, 1), (1, 0)):
            self.yes(stand, three, ("first",) + pair + (self.TREE, self.TREE))
        twice = ("first", 0, 1, self.TREE, self.TREE)
        self.yes(stand, three, twice)
        self.yes(stand, three, ("first", 0, 1, twice, ("first", 1, 2, twice, twice)))
        # Told both ways round on the way, either one will do, and both together none.
        self.yes(stand, three, ("first", 0, 1, ("first", 1, 0, ("late", (0, 1)), ("late", (0, 1))), ("late", (1, 0))))
        self.yes(stand, three, ("first", 0, 1, ("first", 1, 0, ("late", (1, 0)), ("late", (0, 1))), ("late", (1, 0))))
        self.no(stand, three, ("first", 0, 1, ("first", 1, 0, ("late", (1, 0)), ("late", (1, 0))), ("late", (1, 0))))
        self.no(stand, three, ("first", 0, 1, ("first", 1, 0, ("late", (0, 1, 0)), ("late", (0, 1))), ("late", (1, 0))))

    def test_six_splits_within_one_another(self):
        tree = self.TREE
        for pair in ((0, 1), (1, 0), (0, 1), (1, 0), (0, 1)):
            self.yes(self.TWO, self.PAIR, tree)
            self.no(self.TWO, self.PAIR, ("first",) + pair + (("late", pair[::-1]), tree))
            tree = ("first",) + pair + (tree, tree)
        self.assertEqual(splits_deep(tree), 6)
        self.yes(self.TWO, self.PAIR, tree)

    def test_leaves_of_too_few_names(self):
        for some in ((), (0,), (1,)):
            self.no(self.TWO, self.PAIR, ("late", some))
            self.no(self.TWO, self.PAIR, ("first", 0, 1, ("late", some), ("late", (1, 0))))
            self.no(self.TWO, self.PAIR, ("first", 0, 1, ("late", (0, 1)), ("late", some)))

    def test_leaves_of_a_name_twice(self):
        for some in ((0, 0), (0, 1, 1), (0, 0, 1), (0, 1, 0), (0, 1, 0, 1)):
            self.no(self.TWO, self.PAIR, ("first", 0, 1, ("late", some), ("late", (1, 0))))

    def test_leaves_of_names_that_are_not_the_wishs(self):
        stand = self.TWO + ((0,), (0,))
        for name in (2, 3, -1, -2, -4, 4, 10 ** 30):
            for some in ((0, name), (name, 1), (0, 1, name), (name, 0, 1), (name, 3), (name,)):
                self.no(stand, self.PAIR, ("first", 0, 1, ("late", some), ("late", (1, 0))))

    def test_neighbours_that_were_not_told_on_the_way(self):
        self.no(self.TWO, self.PAIR, ("late", (0, 1)))
        self.no(self.TWO, self.PAIR, ("late", (1, 0)))
        stand = ((0,), (0,), (0,))
        wish = ("hand", (0, 1, 2), (1, 1, 1))
        late = {some: ("late", some) for size in (2, 3) for some in itertools.permutations(range(3), size)}
        self.yes(stand, wish, ("first", 0, 1, late[0, 1], late[1, 0]))
        self.no(stand, wish, ("first", 0, 1, late[0, 2], late[1, 0]))
        self.no(stand, wish, ("first", 0, 1, late[0, 1, 2], late[1, 0]))
        self.no(stand, wish, ("first", 0, 1, late[2, 0, 1], late[1, 0]))
        self.yes(stand, wish, ("first", 0, 1, ("first", 1, 2, late[0, 1, 2], late[2, 1]), late[1, 0]))
        # 0 ahead of 1 and 1 ahead of 2 tell nothing of 0 and 2.
        self.no(stand, wish, ("first", 0, 1, ("first", 1, 2, late[0, 2], late[2, 1]), late[1, 0]))
        # What was told in the other half isn't on the way.
        self.no(stand, wish, ("first", 1, 2, ("first", 0, 1, late[0, 1], late[1, 0]), late[1, 0]))

    def test_late_by_just_one(self):
        for length in (1, 2, 3, 4):
            wish = ("hand", (0, 1), (length, 4))
            self.yes(((0,), (length - 1,)), wish, self.TREE)
            self.no(((0,), (length,)), wish, self.TREE)
            self.yes(((0, 1), (-1, length - 1)), wish, self.TREE)
            self.no(((0, 1), (-1, length)), wish, self.TREE)

    def test_late_at_the_third_or_the_fourth(self):
        wish = ("hand", (3, 1, 2, 0), (2, 2, 2, 2))
        whole = (0, 1, 2, 3)
        third = ((0,), (2,), (3,), (9,))
        fourth = ((0,), (2,), (4,), (5,))
        by_all_alone = ((0,), (1, 2), (3, 4), (5,))
        for stand, late, in_time in (
            (third, ((0, 1, 2), whole, (1, 2), (1, 2, 3)), ((0, 1), (2, 3))),
            (fourth, (whole, (1, 2, 3), (2, 3)), ((0, 1), (1, 2), (0, 1, 2))),
            (by_all_alone, (whole,), ((0, 1), (1, 2), (2, 3), (0, 1, 2), (1, 2, 3))),
        ):
            for some in late:
                self.yes(stand, wish, chain(some))
            for some in in_time:
                self.no(stand, wish, chain(some))

    def test_begins_are_the_least_ones(self):
        wish = ("hand", (0, 1, 2, 3), (2, 1, 4, 4))
        # 0 begins at its least worth, 1 at the least that is not below the end of 0, and 2 comes behind that.
        self.yes(((0,), (1, 3), (3,), (9,)), wish, chain((0, 1, 2)))
        self.no(((0,), (1, 2, 3), (3,), (9,)), wish, chain((0, 1, 2)))
        self.no(((0,), (1, 3), (3, 4), (9,)), wish, chain((0, 1, 2)))
        self.yes(((1,), (2, 3), (3,), (9,)), wish, chain((0, 1, 2)))
        self.no(((-1, 1), (2, 3), (3,), (9,)), wish, chain((0, 1, 2)))

    def test_those_behind_are_not_looked_at(self):
        # 1 can't begin behind 0; that 2 could is nothing to it.
        stand = ((1,), (1,), (9,))
        wish = ("hand", (0, 1, 2), (1, 1, 1))
        ahead = ("first", 1, 2, ("late", (0, 1, 2)), ("late", (0, 1)))
        self.yes(stand, wish, ("first", 0, 1, ahead, ("late", (1, 0))))
        self.yes(stand, wish, ("first", 1, 2, ("first", 0, 1, ("late", (0, 1, 2)), ("late", (1, 0))), self.TREE))

    def test_all_small_trees(self):
        names = (0, 1, 2, -1)
        leaves = [("late", some) for size in range(4) for some in itertools.product(range(3), repeat=size)]
        came_up = set()
        for stand in (((0,), (0,), (0,)), ((0, 1), (0, 1), (1, 5)), ((2,), (1, 2), (2, 3))):
            for wish in (("hand", (0, 1, 2), (1, 2, 1)), ("hand", (1, 0), (2, 2))):
                came_up |= self.looked_over(stand, wish, leaves)
                for i, j in itertools.product(names, repeat=2):
                    trees = [("first", i, j, one, other) for one in leaves[::2] for other in leaves]
                    came_up |= self.looked_over(stand, wish, trees)
        self.assertEqual(came_up, {True, False})

    def test_bent(self):
        came_up = {True: 0, False: 0}
        for stand, wish in drawn("hand", 300):
            told = hand_can(stand, wish)
            if told[0] == "no":
                for tree in list(bent_trees(told[1], (-1, 0, 1, 2, 3, 10 ** 30)))[::7]:
                    for truth in self.looked_over(stand, wish, [tree]):
                        came_up[truth] += 1
        self.assertGreater(came_up[True], 200)
        self.assertGreater(came_up[False], 2000)

    def test_held_against_other_stands(self):
        pairs = [pair for pair in drawn("hand", 700) if not fulfilling(*pair)]
        trees = [hand_can(stand, wish)[1] for stand, wish in pairs]
        came_up = set()
        for (stand, wish), tree in zip(pairs, trees):
            came_up |= self.looked_over(stand, wish, trees[::25])
            for name, worths in enumerate(stand):
                for worth in worths:
                    self.yes(settled_by_8(stand, name, worth), wish, tree)
            for other in STANDS_OF_FOUR:
                came_up |= self.looked_over(other, wish, [tree])
        self.assertEqual(came_up, {True, False})

    def test_a_tree_of_the_settled_stand_held_against_the_whole(self):
        tree = hand_can(((0,), (0, 1)), ("hand", (0, 1), (2, 2)))[1]
        self.yes(((0,), (0, 1)), ("hand", (0, 1), (2, 2)), tree)
        self.no(((0, 3), (0, 1)), ("hand", (0, 1), (2, 2)), tree)
        self.no(((0,), (0, 2)), ("hand", (0, 1), (2, 2)), tree)
        self.no(((0,), (0, 1)), ("hand", (0, 1), (1, 2)), tree)

    def test_papers_of_other_kinds(self):
        for paper in OF_EACH_KIND:
            self.looked_over(self.TWO, self.PAIR, [paper])
        for paper in ((), (0, 1), [], [(0,)], ("names", (0, 1)), ("worths", (0, 1))):
            self.no(self.TWO, self.PAIR, paper)


STANDS_OF_FOUR = (((0, 1),) * 4, ((0, 1, 2),) * 4, ((-9, 9),) * 4, ((0,),) * 4, ((0, 2), (1, 3), (0, 1, 2, 3), (5,)))


if __name__ == "__main__":
    unittest.main()
