import copy
import itertools
import unittest

from wishstrike.rounds import rounds
from wishstrike.trees import is_none, solve

from bends import bent_nones
from draws import drawn_knotted, drawn_with_wishes
from points import fulfilling_all, none_by_18


def settles_deep(tree):
    return 0 if tree[0] == "struck" else 1 + max(map(settles_deep, tree[3]))


def is_made_so(tree):
    """Whether the tree is one by its words, tuples and lists alone."""
    if type(tree) is not tuple or type(tree[1]) is not list:
        return False
    if tree[0] == "struck":
        return len(tree) == 2
    return tree[0] == "settle" and len(tree) == 4 and type(tree[2]) is int and type(tree[3]) is list \
        and all(map(is_made_so, tree[3]))


# Two worths each, all three pairs unlike: no wish strikes anything, and yet none fulfils all.
RING = ((0, 1),) * 3
UNLIKE = [("unlike", (0, 1)), ("unlike", (1, 2)), ("unlike", (2, 0))]


class Solve(unittest.TestCase):
    def told(self, stand, wishes):
        kept = copy.deepcopy((stand, wishes))
        told = solve(stand, wishes)
        some = fulfilling_all(stand, wishes)
        self.assertIs(type(told), tuple)
        if some:
            self.assertEqual(told, ("filling", some[0]), (stand, wishes))
        else:
            self.assertEqual((len(told), told[0]), (2, "none"), (stand, wishes))
            self.assertTrue(is_made_so(told[1]) and none_by_18(stand, wishes, told[1]), (stand, wishes, told))
            self.assertIs(is_none(stand, wishes, told[1]), True)
        self.assertEqual((stand, wishes), kept)
        return told

    def test_drawn(self):
        came_up = {}
        for stand, wishes in drawn_with_wishes(9, 1500):
            key = (self.told(stand, wishes)[0], len(wishes))
            came_up[key] = came_up.get(key, 0) + 1
        for many in (1, 2, 3):
            self.assertGreater(came_up["filling", many], 50)
            self.assertGreater(came_up["none", many], 30)
        self.assertNotIn(("none", 0), came_up)

    def test_where_rounds_do_not_end(self):
        deep = {}
        struck_ahead = 0
        for stand, wishes in drawn_knotted(1, 150):
            for order in (wishes, wishes[::-1]):
                tree = self.told(stand, order)[1]
                deep[settles_deep(tree)] = deep.get(settles_deep(tree), 0) + 1
                struck_ahead += len(tree[1]) > 0
        for many in (1, 2, 3):
            self.assertGreater(deep[many], 5)
        self.assertGreater(struck_ahead, 20)

    def test_no_wishes(self):
        self.assertEqual(solve(((-9, 9), (0, 1)), []), ("filling", (-9, 0)))

    def test_the_first_filling(self):
        stand = ((0, 1, 2), (0, 1, 2))
        self.assertEqual(solve(stand, [("unlike", (0, 1))]), ("filling", (0, 1)))
        self.assertEqual(solve(stand, [("sum", (0, 1), (1, 1), 3, 9)]), ("filling", (1, 2)))

    def test_a_wish_that_can_not_be_at_all(self):
        told = self.told(((0, 1), (5,)), [("row", (1,), (), (0,))])
        self.assertEqual(told, ("none", ("struck", [(0, 1, 5, [(0,), ()])])))

    def test_what_is_told_is_new(self):
        for stand, wishes in itertools.chain(drawn_with_wishes(10, 100), drawn_knotted(2, 20)):
            told = solve(stand, wishes)
            if told[0] == "none":
                wanted = copy.deepcopy(told)
                told[1][1].append(None)
                if told[1][0] == "settle":
                    told[1][3].clear()
                self.assertEqual(solve(stand, wishes), wanted)


class IsNone(unittest.TestCase):
    def held(self, stand, wishes, tree):
        kept = copy.deepcopy((stand, wishes, tree))
        told = is_none(stand, wishes, tree)
        if told is not none_by_18(stand, wishes, tree):
            self.fail(f"{stand!r} {wishes!r} {tree!r} {told!r}")
        self.assertEqual((stand, wishes, tree), kept)
        return told

    def yes(self, stand, wishes, tree):
        with self.subTest(tree=tree):
            self.assertIs(is_none(stand, wishes, tree), True)

    def no(self, stand, wishes, tree):
        with self.subTest(tree=tree):
            self.assertIs(is_none(stand, wishes, tree), False)

    def test_bent(self):
        came_up = {True: 0, False: 0}
        drawn = [pair for pair in drawn_with_wishes(11, 300) if not fulfilling_all(*pair)]
        for stand, wishes in drawn + list(drawn_knotted(3, 30)):
            for at, bent in enumerate(bent_nones(wishes, solve(stand, wishes)[1])):
                if at % 11 == 0:
                    came_up[self.held(stand, wishes, bent)] += 1
        self.assertGreater(came_up[True], 100)
        self.assertGreater(came_up[False], 1000)

    def test_told_of_another_stand_or_of_other_wishes(self):
        drawn = [pair for pair in drawn_with_wishes(12, 150) if not fulfilling_all(*pair)]
        drawn += list(drawn_knotted(4, 30))
        trees = [solve(stand, wishes)[1] for stand, wishes in drawn]
        came_up = {True: 0, False: 0}
        for stand, wishes in drawn:
            for tree in trees:
                came_up[self.held(stand, wishes, tree)] += 1
            for order in itertools.permutations(wishes):
                came_up[self.held(stand, list(order), solve(stand, wishes)[1])] += 1
        self.assertGreater(came_up[True], 100)
        self.assertGreater(came_up[False], 1000)

    def test_none_is_right_where_a_filling_fulfils_all(self):
        trees = [solve(*pair)[1] for pair in drawn_knotted(5, 20)]
        for stand, wishes in drawn_with_wishes(13, 150):
            if fulfilling_all(stand, wishes):
                for tree in trees + [("struck", []), ("struck", rounds(stand, wishes)[1])]:
                    self.no(stand, wishes, tree)

    # Of RING: name 0 is settled to 0 or 1, then names 1 and 2 both take the other one.
    LEFT = ("struck", [(0, 1, 0, (0, 1)), (2, 2, 0, (0, 2)), (1, 1, 1, (1, 2))])
    RIGHT = ("struck", [(0, 1, 1, (0, 1)), (2, 2, 1, (0, 2)), (1, 1, 0, (1, 2))])

    def test_ordinary(self):
        self.yes(RING, UNLIKE, ("settle", [], 0, [self.LEFT, self.RIGHT]))
        self.no(RING, UNLIKE, ("settle", [], 0, [self.RIGHT, self.LEFT]))
        self.no(RING, UNLIKE, ("settle", [], 0, [self.LEFT, self.LEFT]))
        self.no(RING, UNLIKE[:2], ("settle", [], 0, [self.LEFT, self.RIGHT]))
        self.no(RING, [], ("settle", [], 0, [self.LEFT, self.RIGHT]))
        self.no(((0, 1), (0, 1), (0, 1, 2)), UNLIKE, ("settle", [], 0, [self.LEFT, self.RIGHT]))

    def test_fewer_and_more_trees(self):
        for trees in ([], [self.LEFT], [self.RIGHT], [self.LEFT, self.RIGHT] * 2, [self.LEFT, self.RIGHT, self.RIGHT]):
            self.no(RING, UNLIKE, ("settle", [], 0, trees))

    def test_names_that_there_are_not(self):
        for name in (-10 ** 30, -4, -3, -2, -1, 1, 2, 3, 4, 10 ** 30):
            self.no(RING, UNLIKE, ("settle", [], name, [self.LEFT, self.RIGHT]))

    def test_a_leaf_that_does_not_end(self):
        self.no(RING, UNLIKE, ("struck", []))
        self.no(RING, UNLIKE, ("settle", [], 0, [("struck", self.LEFT[1][:-1]), self.RIGHT]))
        self.no(RING, UNLIKE, ("settle", [], 0, [("struck", []), self.RIGHT]))

    def test_a_settle_that_ended(self):
        stand = ((0,), (0, 1), (0,))
        end = (0, 0, 0, (0, 2))
        wishes = [("unlike", (0, 2))]
        self.yes(stand, wishes, ("struck", [end]))
        self.yes(stand, wishes, ("settle", [], 0, [("struck", [end])]))
        self.yes(stand, wishes, ("settle", [], 1, [("struck", [end]), ("struck", [end])]))
        self.no(stand, wishes, ("settle", [end], 0, [("struck", [end])]))
        self.no(stand, wishes, ("settle", [end], 1, [("struck", [end]), ("struck", [end])]))
        self.no(stand, wishes, ("struck", [end, end]))

    def test_as_many_trees_as_worths_are_left(self):
        stand = ((0, 1, 2), (0, 1), (0, 1))
        wishes = UNLIKE[:2] + [("sum", (0, 2), (1, 1), 1, 1)]
        strikes = [(2, 0, 2, [(0,), (2,), (2, 3)])]
        below = [solve(((worth,),) + stand[1:], wishes)[1] for worth in stand[0]]
        self.yes(stand, wishes, ("settle", strikes, 0, below[:2]))
        self.no(stand, wishes, ("settle", strikes, 0, below))
        self.yes(stand, wishes, ("settle", [], 0, below))
        self.no(stand, wishes, ("settle", [], 0, below[:2]))

    def test_five_settles_within_one_another(self):
        tree = ("settle", [], 0, [self.LEFT, self.RIGHT])
        left = ("settle", [], 0, [("settle", [], 0, [("settle", [], 0, [("settle", [], 0, [self.LEFT])])])])
        deep = ("settle", [], 0, [left, self.RIGHT])
        self.assertEqual(settles_deep(deep), 5)
        self.yes(RING, UNLIKE, tree)
        self.yes(RING, UNLIKE, deep)
        self.no(RING, UNLIKE, ("settle", [], 0, [self.RIGHT, left]))

    def test_what_is_handed_in_is_not_kept(self):
        trees = [self.LEFT, self.RIGHT]
        tree = ("settle", [], 0, trees)
        self.yes(RING, UNLIKE, tree)
        trees.pop()
        self.no(RING, UNLIKE, tree)
        trees.append(self.RIGHT)
        self.yes(RING, UNLIKE, tree)


if __name__ == "__main__":
    unittest.main()
