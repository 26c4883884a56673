"""What is refused of a stand and a wish by each function that tells of one kind."""

import itertools
import unittest

from wishstrike.errors import NoStand
from wishstrike.lines import row_can, row_paper
from wishstrike.many import many_can, many_paper
from wishstrike.sums import sum_can, sum_paper
from wishstrike.unlike import unlike_can, unlike_paper

from cases import RefusalCase
from samples import NEVER, NO_STANDS, NO_WISHES, STAND, STANDS, WISHES, never_right

# Of each kind: its functions, and papers of it, right ones and wrong ones.
KINDS = {
    "unlike": (unlike_can, unlike_paper, ((), (0,), (0, 1), (5, -1))),
    "many": (many_can, many_paper, (("names", (0,)), ("worths", (1,)), ("names", ()))),
    "sum": (sum_can, sum_paper, ([], [(0,), (1,)], [(0,), (1,), (2,)])),
    "row": (row_can, row_paper, ([], [(0,), ()], [(0,), (1,), (2,)])),
}

# Of each kind one of STAND, and one that isn't of it for its names.
OURS = {
    "unlike": ("unlike", (0, 1)),
    "many": ("many", (1, 0), ((1, 0, 1),)),
    "sum": ("sum", (0, 1), (1, 1), 0, 1),
    "row": ("row", (1,), ((0, 1, 1),), (1,)),
    "hand": ("hand", (0, 1), (1, 1)),
}
BEYOND = {word: (wish[0], (0, 2)[-len(wish[1]):]) + wish[2:] for word, wish in OURS.items()}


def calls():
    """Each of the eight, with a paper where one is asked for; and its kind's word."""
    for word, (can, look, papers) in KINDS.items():
        yield word, can, ()
        for paper in papers:
            yield word, look, (paper,)


class Refusals(RefusalCase):
    def test_nothing_is_due(self):
        for word, call, more in calls():
            self.assertIn(type(call(STAND, OURS[word], *more)), (tuple, bool))

    def test_no_stand(self):
        for word, call, more in calls():
            for thing in NO_STANDS + NEVER:
                self.refused(NoStand, call, thing, OURS[word], *more)

    def test_no_wish(self):
        for word, call, more in calls():
            for thing in NO_WISHES + NEVER + STANDS:
                self.no_wish(0, call, STAND, thing, *more)

    def test_a_wish_made_wrong(self):
        for word, call, more in calls():
            for wish in WISHES:
                if wish[0] == word:
                    for thing in itertools.islice(never_right(wish), 0, None, 23):
                        self.no_wish(0, call, STANDS[-1], thing, *more)

    def test_a_name_that_the_stand_has_not(self):
        for word, call, more in calls():
            self.no_wish(0, call, STAND, BEYOND[word], *more)
            for wish in WISHES:
                if wish[0] == word and max(wish[1]) > 1:
                    self.no_wish(0, call, STAND, wish, *more)

    def test_a_wish_of_another_kind(self):
        for word, call, more in calls():
            for other in OURS:
                if other != word:
                    self.no_wish(0, call, STAND, OURS[other], *more)
                    self.no_wish(0, call, STAND, BEYOND[other], *more)
            for wish in WISHES:
                if wish[0] != word:
                    self.no_wish(0, call, STANDS[-1], wish, *more)

    def test_the_stand_goes_first(self):
        for word, call, more in calls():
            for stand in NO_STANDS:
                for wish in NO_WISHES + tuple(OURS.values()) + tuple(BEYOND.values()):
                    self.refused(NoStand, call, stand, wish, *more)


if __name__ == "__main__":
    unittest.main()
