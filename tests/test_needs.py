import itertools
import unittest

from wishstrike.errors import NoName, NoStand, NoWorth, TooMany
from wishstrike.things import is_stand, need, need_all, settled

from cases import RefusalCase
from samples import BEYOND, NEVER, NO_STANDS, NO_WISHES, OURS, STAND, STANDS, WISHES, never_right


class Need(RefusalCase):
    def test_nothing_is_due(self):
        for stand in STANDS:
            for wish in WISHES:
                if max(wish[1]) < len(stand):
                    with self.subTest(stand=stand, wish=wish):
                        self.assertIsNone(need(stand, wish))

    def test_no_stand(self):
        for thing in NO_STANDS:
            self.refused(NoStand, need, thing, OURS)

    def test_no_wish(self):
        for thing in NO_WISHES + NEVER + STANDS:
            self.no_wish(0, need, STAND, thing)

    def test_a_wish_made_wrong(self):
        for wish in WISHES:
            for thing in itertools.islice(never_right(wish), 0, None, 5):
                self.no_wish(0, need, STANDS[-1], thing)

    def test_a_wish_of_names_that_the_stand_has_not(self):
        for stand in STANDS:
            for wish in WISHES:
                if max(wish[1]) >= len(stand):
                    self.no_wish(0, need, stand, wish)
        self.no_wish(0, need, STAND, ("unlike", (2, 0)))
        self.no_wish(0, need, STAND, BEYOND)

    def test_the_stand_goes_first(self):
        for stand in NO_STANDS:
            for wish in NO_WISHES + (BEYOND,):
                self.refused(NoStand, need, stand, wish)


class NeedAll(RefusalCase):
    def test_nothing_is_due(self):
        for many in range(4):
            wishes = [OURS, ("many", (1,), ()), ("sum", (1, 0), (1, 1), 0, 9)][:many]
            kept = list(wishes)
            self.assertIsNone(need_all(STAND, wishes))
            self.assertEqual(wishes, kept)
        self.assertIsNone(need_all(STAND, [OURS, OURS, OURS]))

    def test_no_stand(self):
        for thing in NO_STANDS:
            self.refused(NoStand, need_all, thing, [])
            self.refused(NoStand, need_all, thing, [OURS])

    def test_no_wish_tells_the_first(self):
        for wrong in NO_WISHES + (BEYOND, None):
            for many in range(3):
                for behind in range(3 - many):
                    self.no_wish(many, need_all, STAND, [OURS] * many + [wrong] + [OURS] * behind)
            self.no_wish(0, need_all, STAND, [wrong, wrong])
            self.no_wish(1, need_all, STAND, [OURS, wrong, BEYOND])
            self.no_wish(1, need_all, STAND, [OURS, BEYOND, wrong])

    def test_too_many(self):
        for many in (4, 5, 9):
            self.refused(TooMany, need_all, STAND, [OURS] * many)

    def test_no_wish_goes_ahead_of_too_many(self):
        for wrong in NO_WISHES + (BEYOND,):
            for at in range(5):
                wishes = [OURS] * 5
                wishes[at] = wrong
                self.no_wish(at, need_all, STAND, wishes)
        self.no_wish(2, need_all, STAND, [OURS, OURS, None, OURS, BEYOND])

    def test_the_stand_goes_first(self):
        for stand in NO_STANDS:
            self.refused(NoStand, need_all, stand, [None])
            self.refused(NoStand, need_all, stand, [OURS] * 4)
            self.refused(NoStand, need_all, stand, [OURS, BEYOND, None, OURS])


class SettledNames(RefusalCase):
    def test_each_name_to_each_worth(self):
        for stand in STANDS:
            for name in range(len(stand)):
                for worth in stand[name]:
                    left = settled(stand, name, worth)
                    with self.subTest(stand=stand, name=name, worth=worth):
                        self.assertIs(is_stand(left), True)
                        wanted = list(stand)
                        wanted[name] = (worth,)
                        self.assertEqual(left, tuple(wanted))

    def test_the_stand_is_as_it_was(self):
        stand = ((0, 1), (1, 2, 3))
        self.assertEqual(settled(stand, 1, 2), ((0, 1), (2,)))
        self.assertEqual(stand, ((0, 1), (1, 2, 3)))
        self.assertEqual(settled(settled(stand, 1, 2), 0, 0), ((0,), (2,)))

    def test_no_stand(self):
        for thing in NO_STANDS:
            self.refused(NoStand, settled, thing, 0, 0)

    def test_no_name(self):
        for name in (-1, -2, 2, 3, 4, 99, None, True, False, "0", (), (0,), [], [0], [[0]]):
            self.refused(NoName, settled, STAND, name, 1)

    def test_no_worth(self):
        for worth in (-1, 2, 3, 10, None, True, False, "0", (), (0,), [], [0], (0, 1)):
            self.refused(NoWorth, settled, STAND, 0, worth)
        self.refused(NoWorth, settled, STAND, 1, 0)

    def test_the_one_told_first_goes_first(self):
        for stand in NO_STANDS:
            self.refused(NoStand, settled, stand, None, None)
            self.refused(NoStand, settled, stand, 9, 0)
            self.refused(NoStand, settled, stand, 0, 99)
        for name in (-1, 2, True, None, [0]):
            for worth in (99, True, None, [0]):
                self.refused(NoName, settled, STAND, name, worth)


if __name__ == "__main__":
    unittest.main()
