import itertools
import unittest

from wishstrike.errors import Free, NoName, NoStand, NoWish, NoWorth, Settled, TooMany, WishError
from wishstrike.keeper import Keeper

from cases import RefusalCase
from draws import Draw, drawn_knotted, drawn_with_wishes
from points import kept_by_19, pairs_of
from samples import NEVER

NO_NAMES = (-10 ** 30, -4, -1, 3, 4, 10 ** 30, None, True, False, "0", (), (0,), [], [0], [[0]])
NO_WORTHS = (-10 ** 30, -1, 3, 10, 10 ** 30, None, True, False, "0", (), (0,), [], [0], [[0]])


def told(keeper):
    return (keeper.stand(), keeper.ended(), keeper.settled())


class Kept(unittest.TestCase):
    def look(self, keeper, stand, wishes, order):
        """What the keeper tells, held against the point."""
        left, ended = kept_by_19(stand, wishes, order)
        self.assertEqual(told(keeper), (left, ended, sorted(order)), (stand, wishes, order))
        self.assertIs(type(keeper.ended()), bool)
        self.assertIs(type(keeper.settled()), list)
        self.assertTrue(all(type(pair) is tuple for pair in keeper.settled()))

    def done(self, keeper, change, *things):
        """A settle or a free, and the pairs that it tells held against the stands ahead and behind."""
        ahead = pairs_of(keeper.stand())
        pairs = change(*things)
        behind = pairs_of(keeper.stand())
        self.assertIs(type(pairs), tuple)
        self.assertEqual([type(each) for each in pairs], [list, list])
        self.assertEqual(pairs, (sorted(ahead - behind), sorted(behind - ahead)))
        return pairs

    def anew(self, stand, wishes, order):
        keeper = Keeper(stand, wishes)
        for name, worth in order:
            keeper.settle(name, worth)
        return keeper

    def walked(self, draw, stand, wishes, steps):
        """A keeper settled and freed at drawn places; how many changes there were of each kind."""
        keeper = Keeper(stand, wishes)
        order = []
        self.look(keeper, stand, wishes, order)
        came_up = []
        for _ in range(steps):
            name = draw.below(len(stand))
            settled = [pair for pair in order if pair[0] == name]
            if settled:
                self.done(keeper, keeper.free, name)
                order.remove(settled[0])
                came_up.append("freed")
            else:
                worth = draw.pick(stand[name])
                came_up.append("settled" if worth in keeper.stand()[name] else "struck")
                self.done(keeper, keeper.settle, name, worth)
                order.append((name, worth))
            self.look(keeper, stand, wishes, order)
            self.assertEqual(told(keeper), told(self.anew(stand, wishes, order)))
            came_up.append(f"ended {keeper.ended()}")
        return came_up

    def test_drawn(self):
        draw = Draw(31)
        came_up = {}
        for stand, wishes in itertools.chain(drawn_with_wishes(30, 150), drawn_knotted(30, 30)):
            for what in self.walked(draw, stand, wishes, 10):
                came_up[what] = came_up.get(what, 0) + 1
        for what in ("freed", "settled", "struck", "ended True", "ended False"):
            self.assertGreater(came_up[what], 50, came_up)

    STAND = ((0,), (0, 1, 2), (0, 1, 2))
    WISHES = [("unlike", (0, 1, 2)), ("sum", (1, 2), (1, 1), 0, 4)]

    def test_ordinary(self):
        keeper = Keeper(self.STAND, self.WISHES)
        self.assertEqual(told(keeper), (((0,), (1, 2), (1, 2)), False, []))
        self.assertEqual(keeper.settle(1, 2), ([(1, 1), (2, 2)], []))
        self.assertEqual(told(keeper), (((0,), (2,), (1,)), False, [(1, 2)]))
        self.assertEqual(keeper.settle(0, 0), ([], []))
        self.assertEqual(keeper.settled(), [(0, 0), (1, 2)])
        self.assertEqual(keeper.free(1), ([], [(1, 1), (2, 2)]))
        self.assertEqual(told(keeper), (((0,), (1, 2), (1, 2)), False, [(0, 0)]))
        self.assertEqual(keeper.free(0), ([], []))

    def test_a_struck_worth_ends_it(self):
        keeper = Keeper(self.STAND, self.WISHES)
        self.assertEqual(keeper.settle(1, 0), ([(1, 1), (1, 2)], [(1, 0), (2, 0)]))
        self.assertEqual(told(keeper), (((0,), (0,), (0, 1, 2)), True, [(1, 0)]))
        self.assertEqual(keeper.settle(2, 2), ([(2, 0), (2, 1)], []))
        self.assertEqual(told(keeper), (((0,), (0,), (2,)), True, [(1, 0), (2, 2)]))
        self.assertEqual(keeper.free(1), ([(1, 0)], [(1, 1)]))
        self.assertEqual(told(keeper), (((0,), (1,), (2,)), False, [(2, 2)]))

    def test_ended_from_the_start(self):
        keeper = Keeper(((0, 1), (5, 6)), [("row", (0,), (), ())])
        self.assertEqual(told(keeper), (((0, 1), (5, 6)), True, []))
        self.assertEqual(keeper.settle(1, 6), ([(1, 5)], []))
        self.assertEqual(told(keeper), (((0, 1), (6,)), True, [(1, 6)]))

    def test_settled_again_to_another_worth(self):
        keeper = Keeper(((0, 1, 2),), [])
        for worth in (0, 2, 1, 1):
            self.done(keeper, keeper.settle, 0, worth)
            self.assertEqual(told(keeper), (((worth,),), False, [(0, worth)]))
            self.done(keeper, keeper.free, 0)
            self.assertEqual(told(keeper), (((0, 1, 2),), False, []))

    def test_in_any_order(self):
        for order in itertools.permutations([(0, 0), (1, 2), (2, 1)]):
            self.look(self.anew(self.STAND, self.WISHES, order), self.STAND, self.WISHES, list(order))

    def test_two_side_by_side(self):
        one = Keeper(self.STAND, self.WISHES)
        other = Keeper(self.STAND, self.WISHES)
        third = Keeper(self.STAND, self.WISHES[:1])
        one.settle(1, 2)
        self.assertEqual(told(other), (((0,), (1, 2), (1, 2)), False, []))
        other.settle(1, 1)
        third.settle(2, 1)
        self.assertEqual(told(one), (((0,), (2,), (1,)), False, [(1, 2)]))
        self.assertEqual(told(other), (((0,), (1,), (2,)), False, [(1, 1)]))
        self.assertEqual(told(third), (((0,), (2,), (1,)), False, [(2, 1)]))

    def test_lists_may_be_changed(self):
        wishes = list(self.WISHES)
        keeper = Keeper(self.STAND, wishes)
        wishes.clear()
        self.assertEqual(wishes, [])
        went, came = keeper.settle(1, 2)
        went.clear()
        came.append((9, 9))
        keeper.settled().clear()
        keeper.settled().append((2, 2))
        self.assertEqual(told(keeper), (((0,), (2,), (1,)), False, [(1, 2)]))
        wishes.append(("row", (0,), (), ()))
        self.assertEqual(keeper.free(1), ([], [(1, 1), (2, 2)]))
        self.assertEqual(told(keeper), (((0,), (1, 2), (1, 2)), False, []))

    def test_what_is_handed_in_stays(self):
        wishes = list(self.WISHES)
        keeper = Keeper(self.STAND, wishes)
        keeper.settle(1, 0)
        keeper.free(1)
        self.assertEqual((self.STAND, wishes), (((0,), (0, 1, 2), (0, 1, 2)), self.WISHES))


class Refused(RefusalCase):
    STAND = Kept.STAND
    WISHES = Kept.WISHES

    def refused_and_kept(self, error, keeper, change, *things):
        ahead = told(keeper)
        self.refused(error, change, *things)
        self.assertEqual(told(keeper), ahead)

    def test_no_name(self):
        for settled in ((), ((0, 0),), ((1, 0), (2, 2))):
            keeper = Keeper(self.STAND, self.WISHES)
            for name, worth in settled:
                keeper.settle(name, worth)
            for name in NO_NAMES:
                for worth in (0, 1, 99, None, True, [0]):
                    self.refused_and_kept(NoName, keeper, keeper.settle, name, worth)
                self.refused_and_kept(NoName, keeper, keeper.free, name)

    def test_no_worth(self):
        keeper = Keeper(self.STAND, self.WISHES)
        for worth in NO_WORTHS:
            for name in (0, 1, 2):
                self.refused_and_kept(NoWorth, keeper, keeper.settle, name, worth)
        self.refused_and_kept(NoWorth, keeper, keeper.settle, 0, 1)

    def test_a_worth_of_the_first_stand_goes_though_it_is_struck(self):
        keeper = Keeper(self.STAND, self.WISHES)
        self.assertNotIn((1, 0), pairs_of(keeper.stand()))
        keeper.settle(1, 0)
        self.assertTrue(keeper.ended())

    def test_settled_already(self):
        keeper = Keeper(self.STAND, self.WISHES)
        keeper.settle(1, 2)
        for worth in (0, 1, 2):
            self.refused_and_kept(Settled, keeper, keeper.settle, 1, worth)
        for worth in NO_WORTHS:
            self.refused_and_kept(NoWorth, keeper, keeper.settle, 1, worth)
        keeper.free(1)
        keeper.settle(1, 1)

    def test_a_name_of_one_worth_is_not_settled_by_itself(self):
        keeper = Keeper(self.STAND, self.WISHES)
        self.refused_and_kept(Free, keeper, keeper.free, 0)
        keeper.settle(0, 0)
        self.refused_and_kept(Settled, keeper, keeper.settle, 0, 0)
        keeper.free(0)
        self.refused_and_kept(Free, keeper, keeper.free, 0)

    def test_free_already(self):
        keeper = Keeper(self.STAND, self.WISHES)
        keeper.settle(2, 1)
        for name in (0, 1):
            self.refused_and_kept(Free, keeper, keeper.free, name)
        keeper.free(2)
        self.refused_and_kept(Free, keeper, keeper.free, 2)

    def test_where_it_ended(self):
        keeper = Keeper(self.STAND, [("row", (0,), (), ())])
        keeper.settle(1, 1)
        self.assertTrue(keeper.ended())
        self.refused_and_kept(Settled, keeper, keeper.settle, 1, 1)
        self.refused_and_kept(NoWorth, keeper, keeper.settle, 2, 7)
        self.refused_and_kept(Free, keeper, keeper.free, 2)

    def test_drawn(self):
        draw = Draw(32)
        came_up = {}
        for stand, wishes in drawn_with_wishes(33, 150):
            keeper = Keeper(stand, wishes)
            order = {}
            for _ in range(12):
                name = draw.pick((draw.whole(-1, 4), draw.below(len(stand)), draw.below(len(stand))))
                own = draw.pick(stand[name % len(stand)])
                worth = draw.pick((True, None, own, own, own, own, draw.whole(-9, 9)))
                settles = draw.below(2) == 0
                wanted = refusal_by_19(stand, order, name, worth if settles else 0, settles)
                key = None
                ahead = told(keeper)
                try:
                    keeper.settle(name, worth) if settles else keeper.free(name)
                except WishError as refusal:
                    key = type(refusal)
                    self.assertEqual(told(keeper), ahead)
                self.assertIs(key, wanted, (stand, order, name, worth))
                if key is None and settles:
                    order[name] = worth
                elif key is None:
                    del order[name]
                self.assertEqual(told(keeper), kept_by_19(stand, wishes, order.items()) + (sorted(order.items()),))
                came_up[key] = came_up.get(key, 0) + 1
        for key in (None, NoName, NoWorth, Settled, Free):
            self.assertGreater(came_up[key], 20)

    def test_made_of_wrong_things(self):
        for thing in NEVER:
            self.refused(NoStand, Keeper, thing, [])
            self.refused(NoStand, Keeper, thing, [thing])
        self.no_wish(0, Keeper, self.STAND, [None])
        self.no_wish(2, Keeper, self.STAND, self.WISHES + [("unlike", (3,))])
        self.no_wish(3, Keeper, self.STAND, self.WISHES + [self.WISHES[0], ("unlike", (3,))])
        self.refused(TooMany, Keeper, self.STAND, self.WISHES * 2)
        self.assertTrue(issubclass(NoWish, WishError))


def refusal_by_19(stand, order, name, worth, settles):
    if name not in range(len(stand)):
        return NoName
    if not settles:
        return None if name in order else Free
    if type(worth) is not int or worth not in stand[name]:
        return NoWorth
    return Settled if name in order else None


if __name__ == "__main__":
    unittest.main()
