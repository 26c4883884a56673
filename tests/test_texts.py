import unittest

from wishstrike.errors import NoText
from wishstrike.texts import read_stand, read_wish, show_stand, show_wish

from cases import RefusalCase
from draws import WORDS, Draw, drawn
from forms import stand_in, stand_text, wish_in, wish_text
from samples import STANDS, WISHES

SIGNS = " \t\n,:-_+.0123456789aehinorstuwlkmyx()[]~"

WRITTEN = {
    ((0,),): "0",
    ((-9, 9),): "-9,9",
    ((0, 1), (1, 2)): "0,1 1,2",
    ((-2, 0, 1), (1,), (-1, 3)): "-2,0,1 1 -1,3",
    ("unlike", (0,)): "unlike 0",
    ("unlike", (3, 1, 0, 2)): "unlike 3,1,0,2",
    ("many", (0,), ()): "many 0 -",
    ("many", (2, 0), ((1, 0, 1),)): "many 2,0 1:0:1",
    ("many", (0, 1, 2, 3), ((-9, 0, 0), (-1, 0, 4))): "many 0,1,2,3 -9:0:0,-1:0:4",
    ("sum", (0,), (0,), 0, 0): "sum 0 0 0 0",
    ("sum", (1, 0), (-3, 3), -99, 99): "sum 1,0 -3,3 -99 99",
    ("row", (0,), (), ()): "row 0 - -",
    ("row", (1, 2), ((0, 5, 1), (0, -5, 2), (1, 5, 3)), (3,)): "row 1,2 0:5:1,0:-5:2,1:5:3 3",
    ("row", (0,), ((3, 0, 3), (0, 0, 0)), (0, 3)): "row 0 3:0:3,0:0:0 0,3",
    ("hand", (0,), (1,)): "hand 0 1",
    ("hand", (2, 1), (4, 1)): "hand 2,1 4,1",
}


def bent_texts(text):
    """The text with each sign out, twice, exchanged, another one, and with one more at each place."""
    for at in range(len(text) + 1):
        yield text[:at]
        yield text[at:]
        yield text[:at] + text[at + 1:]
        for sign in SIGNS:
            yield text[:at] + sign + text[at:]
            yield text[:at] + sign + text[at + 1:]
    for at in range(len(text) - 1):
        yield text[:at] + text[at + 1] + text[at] + text[at + 2:]


def all_stands():
    draw = Draw(21)
    return list(STANDS) + [draw.stand() for _ in range(400)]


def all_wishes():
    return list(WISHES) + [wish for word in WORDS for stand, wish in drawn(word, 300)]


class Written(unittest.TestCase):
    def test_as_told(self):
        for thing, text in WRITTEN.items():
            with self.subTest(text):
                show, read = (show_wish, read_wish) if isinstance(thing[0], str) else (show_stand, read_stand)
                self.assertEqual(show(thing), text)
                self.assertEqual(read(text), thing)

    def test_stands_written_and_read_again(self):
        for stand in all_stands():
            text = show_stand(stand)
            self.assertIs(type(text), str)
            self.assertEqual(text, stand_text(stand))
            self.assertEqual(read_stand(text), stand)

    def test_wishes_written_and_read_again(self):
        for wish in all_wishes():
            text = show_wish(wish)
            self.assertIs(type(text), str)
            self.assertEqual(text, wish_text(wish))
            self.assertEqual(read_wish(text), wish)


class Read(RefusalCase):
    def held(self, read, wanted, text):
        """What is read of the text, held against the point; whether it is refused."""
        try:
            told = read(text)
        except NoText as refusal:
            self.assertIs(type(refusal), NoText)
            told = None
        if told != wanted(text) or repr(told) != repr(wanted(text)):
            self.fail(f"{text!r} {told!r}")
        return told is None

    def test_stands_bent(self):
        came_up = {True: 0, False: 0}
        for stand in all_stands()[::9]:
            for text in bent_texts(stand_text(stand)):
                came_up[self.held(read_stand, stand_in, text)] += 1
        self.assertGreater(came_up[True], 1000)
        self.assertGreater(came_up[False], 1000)

    def test_wishes_bent(self):
        came_up = {True: 0, False: 0}
        for wish in all_wishes()[::31] + [wish for wish in WRITTEN if isinstance(wish[0], str)]:
            for text in bent_texts(wish_text(wish)):
                came_up[self.held(read_wish, wish_in, text)] += 1
        self.assertGreater(came_up[True], 1000)
        self.assertGreater(came_up[False], 1000)

    def test_no_stands(self):
        for text in (
            "", " ", "-", "--", "-0", "00", "01", "-01", "+1", "1.0", "10", "-10", "99", "100", "-100", "1,", ",1", "1,,2",
            "1, 2", "1 ,2", " 1", "1 ", "1  2", "1\t2", "1\n", "\n1", "1\n2", "1:2", "2,1", "1,1", "0,1,2,3,4",
            "0 0 0 0 0", "1 -", "- 1", "0,-0", "stand 0", "a", "1a", "0x1", "1_0", "unlike 0", "1,2 3,2", "1-", "-,1",
            "1 -1 - 1", "(1,2)", "None", "x", "1x", "-x", "e1", "1e", "1e1",
        ):
            self.assertIsNone(stand_in(text))
            self.refused(NoText, read_stand, text)

    def test_no_wishes(self):
        for text in (
            "", " ", "-", "unlike", "unlike ", "unlike -", "unlike 4", "unlike -1", "unlike 0,0", "unlike 0 1", "unlike 0 ",
            " unlike 0", "unlike  0", "Unlike 0", "UNLIKE 0", "unlike\t0", "unlike 0\n", "unlike 00", "unlike -0",
            "unlike 0,1,2,3,4", "unlike 0,1,2,3,0", "like 0", "many 0", "many 0 ", "many - -", "many 0 - -", "many 0 1",
            "many 0 1:0", "many 0 1:0:1:1", "many 0 1:1:0", "many 0 1:0:5", "many 0 10:0:1", "many 0 1:0:1,1:0:1",
            "many 0 2:0:1,1:0:1", "many 0 1:0:1 2:0:1", "many 0 1:-1:1", "many 0 1:0:1,", "many 0 1::1", "many 0 1:0:01",
            "many 0 0:0:1,1:0:1,2:0:1,3:0:1,4:0:1", "many 0 1:0:1,-", "sum 0 1 0", "sum 0 1 0 0 0", "sum 0 - 0 0",
            "sum 0 1 1 0", "sum 0 4 0 0", "sum 0 1,1 0 0", "sum 0,1 1 0 0", "sum 0 1 -100 0", "sum 0 1 0 100",
            "sum 0 1 -0 0", "sum 0 1 - -", "sum 0 1 0,0 1", "sum 0 1 -09 0", "row 0 -", "row 0 - - -", "row 0 - 4",
            "row 0 - -1", "row 0 - 1,0", "row 0 - 0,0", "row 0 0:0 0", "row 0 4:0:0 0", "row 0 0:0:4 0", "row 0 0:10:0 0",
            "row 0 0:0:0,0:0:0 0", "row 0 0:0:0;0:0:1 0", "row 0 - ", "row - - -", "hand 0", "hand 0 -", "hand 0 0",
            "hand 0 5", "hand 0 1,1", "hand 0,1 1", "hand 0 1 1", "hand 0 -1", "0", "0,1 2", "none", "stand 0",
        ):
            self.assertIsNone(wish_in(text), text)
            self.refused(NoText, read_wish, text)

    def test_twelve_doors_and_one_more(self):
        doors = [f"{q}:{worth}:0" for q in range(4) for worth in range(4)]
        self.assertEqual(len(read_wish("row 0 " + ",".join(doors[:12]) + " -")[2]), 12)
        self.refused(NoText, read_wish, "row 0 " + ",".join(doors[:13]) + " -")

    def test_far_numbers(self):
        for text in ("9" * 40, "-" + "9" * 40, "1" * 5000, "0" * 5000):
            self.refused(NoText, read_stand, text)
            self.refused(NoText, read_wish, "sum 0 1 0 " + text)

    def test_doors_and_names_keep_their_order(self):
        self.assertEqual(read_wish("row 3,0 3:0:3,0:0:0,1:5:2 0,3"), ("row", (3, 0), ((3, 0, 3), (0, 0, 0), (1, 5, 2)), (0, 3)))


if __name__ == "__main__":
    unittest.main()
