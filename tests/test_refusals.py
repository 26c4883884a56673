"""What is refused of a stand and a wish, and of a stand and a list of wishes, by each function that tells of them."""

import itertools
import unittest

from wishstrike.errors import NoStand, TooMany
from wishstrike.fillings import first, how_many
from wishstrike.hands import hand_can, hand_paper
from wishstrike.keeper import Keeper
from wishstrike.lines import row_can, row_paper
from wishstrike.many import many_can, many_paper
from wishstrike.papers import can, is_paper, struck
from wishstrike.rounds import left_by, rounds
from wishstrike.sums import sum_can, sum_paper
from wishstrike.trees import is_none, solve
from wishstrike.unlike import unlike_can, unlike_paper

from cases import RefusalCase
from samples import NEVER, NO_STANDS, NO_WISHES, STAND, STANDS, WISHES, never_right

# Of each kind: its functions, and papers of it, right ones and wrong ones.
KINDS = {
    "unlike": (unlike_can, unlike_paper, ((), (0,), (0, 1), (5, -1))),
    "many": (many_can, many_paper, (("names", (0,)), ("worths", (1,)), ("names", ()))),
    "sum": (sum_can, sum_paper, ([], [(0,), (1,)], [(0,), (1,), (2,)])),
    "row": (row_can, row_paper, ([], [(0,), ()], [(0,), (1,), (2,)])),
    "hand": (hand_can, hand_paper, (("late", ()), ("first", 0, 1, ("late", (0, 1)), ("late", (1, 0))))),
}

# Of each kind one of STAND, and one that isn't of it for its names.
OURS = {
    "unlike": ("unlike", (0, 1)),
    "many": ("many", (1, 0), ((1, 0, 1),)),
    "sum": ("sum", (0, 1), (1, 1), 0, 1),
    "row": ("row", (1,), ((0, 1, 1),), (1,)),
    "hand": ("hand", (0, 1), (1, 1)),
}
BEYOND = {word: (wish[0], (0, 2)[-len(wish[1]):]) + wish[2:] for word, wish in OURS.items()}


def calls():
    """Each that tells of one kind, with a paper where one is asked for; and its kind's word."""
    for word, (tell, look, papers) in KINDS.items():
        yield word, tell, ()
        for paper in papers:
            yield word, look, (paper,)


def calls_of_any_kind():
    yield can, ()
    yield struck, ()
    for word, (tell, look, papers) in KINDS.items():
        for paper in papers:
            yield is_paper, (paper,)


def calls_of_lists():
    """Each that tells of a stand and a list of wishes, and what is handed in behind them."""
    yield rounds, ()
    yield how_many, ()
    yield first, ()
    for strikes in ([], [(0, 0, 0, (0, 1))], [(-1, 9, 99, []), (3, 0, 0, ("late", ()))]):
        yield left_by, (strikes,)
        yield is_none, (("struck", strikes),)
        yield is_none, (("settle", strikes, 0, []),)
    yield solve, ()
    yield Keeper, ()


class OfOneKind(RefusalCase):
    def test_nothing_is_due(self):
        for word, call, more in calls():
            self.assertIn(type(call(STAND, OURS[word], *more)), (tuple, bool))

    def test_no_stand(self):
        for word, call, more in calls():
            for thing in NO_STANDS + NEVER:
                self.refused(NoStand, call, thing, OURS[word], *more)

    def test_no_wish(self):
        for word, call, more in calls():
            for thing in NO_WISHES + NEVER + STANDS:
                self.no_wish(0, call, STAND, thing, *more)

    def test_a_wish_made_wrong(self):
        for word, call, more in calls():
            for wish in WISHES:
                if wish[0] == word:
                    for thing in itertools.islice(never_right(wish), 0, None, 23):
                        self.no_wish(0, call, STANDS[-1], thing, *more)

    def test_a_name_that_the_stand_has_not(self):
        for word, call, more in calls():
            self.no_wish(0, call, STAND, BEYOND[word], *more)
            for wish in WISHES:
                if wish[0] == word and max(wish[1]) > 1:
                    self.no_wish(0, call, STAND, wish, *more)

    def test_a_wish_of_another_kind(self):
        for word, call, more in calls():
            for other in OURS:
                if other != word:
                    self.no_wish(0, call, STAND, OURS[other], *more)
                    self.no_wish(0, call, STAND, BEYOND[other], *more)
            for wish in WISHES:
                if wish[0] != word:
                    self.no_wish(0, call, STANDS[-1], wish, *more)

    def test_the_stand_goes_first(self):
        for word, call, more in calls():
            for stand in NO_STANDS:
                for wish in NO_WISHES + tuple(OURS.values()) + tuple(BEYOND.values()):
                    self.refused(NoStand, call, stand, wish, *more)


class OfAnyKind(RefusalCase):
    def test_nothing_is_due(self):
        for call, more in calls_of_any_kind():
            for wish in OURS.values():
                self.assertIn(type(call(STAND, wish, *more)), (tuple, list, bool))

    def test_no_stand(self):
        for call, more in calls_of_any_kind():
            for thing in NO_STANDS + NEVER:
                self.refused(NoStand, call, thing, OURS["unlike"], *more)
                self.refused(NoStand, call, thing, None, *more)

    def test_no_wish(self):
        for call, more in calls_of_any_kind():
            for thing in NO_WISHES + NEVER + STANDS + tuple(BEYOND.values()):
                self.no_wish(0, call, STAND, thing, *more)

    def test_a_wish_made_wrong(self):
        for call, more in calls_of_any_kind():
            for wish in WISHES:
                for thing in itertools.islice(never_right(wish), 0, None, 37):
                    self.no_wish(0, call, STANDS[-1], thing, *more)

    def test_the_stand_goes_first(self):
        for call, more in calls_of_any_kind():
            for stand in NO_STANDS:
                for wish in NO_WISHES + tuple(BEYOND.values()):
                    self.refused(NoStand, call, stand, wish, *more)


class OfLists(RefusalCase):
    ALL = tuple(OURS.values())

    def test_nothing_is_due(self):
        for call, more in calls_of_lists():
            for many in range(4):
                for wishes in itertools.permutations(self.ALL, many):
                    self.assertIn(type(call(STAND, list(wishes), *more)), (tuple, int, type(None), bool, Keeper))

    def test_no_stand(self):
        for call, more in calls_of_lists():
            for thing in NO_STANDS + NEVER:
                self.refused(NoStand, call, thing, [], *more)
                self.refused(NoStand, call, thing, [OURS["sum"]], *more)

    def test_a_bad_one_at_each_place(self):
        for call, more in calls_of_lists():
            for wrong in NO_WISHES + NEVER + tuple(BEYOND.values()):
                for many in (1, 2, 3, 4, 5):
                    for at in range(many):
                        wishes = list(self.ALL[:many])
                        wishes[at] = wrong
                        self.no_wish(at, call, STAND, wishes, *more)

    def test_the_first_of_several_bad_ones(self):
        for call, more in calls_of_lists():
            self.no_wish(1, call, STAND, [self.ALL[0], None, BEYOND["sum"]], *more)
            self.no_wish(1, call, STAND, [self.ALL[0], BEYOND["row"], None, None], *more)
            self.no_wish(0, call, STAND, [BEYOND["hand"], BEYOND["row"]], *more)

    def test_too_many(self):
        for call, more in calls_of_lists():
            for many in (4, 5):
                self.refused(TooMany, call, STAND, list(self.ALL[:many]), *more)
                self.refused(TooMany, call, STAND, [self.ALL[0]] * many, *more)

    def test_the_stand_goes_first(self):
        for call, more in calls_of_lists():
            for stand in NO_STANDS:
                for wishes in ([None], [BEYOND["many"]], list(self.ALL), list(self.ALL) + [None]):
                    self.refused(NoStand, call, stand, wishes, *more)


if __name__ == "__main__":
    unittest.main()
