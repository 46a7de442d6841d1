"""Point 15, with 1 and 2 as they hold of it: nocross.texts."""

import itertools
import unittest

from nocross import texts
from nocross.errors import NoText
from nocross.texts import read, told
from nocross.ties import coarsest, finest, made
from rings import all_ties, is_tie, some_ties, tells_own

SIGNS = "(-)."


def sign_of(tie, place):
    """The sign of a place, by the words of point 15."""
    group = [group for group in tie[1] if place in group][0]
    if len(group) == 1:
        return "."
    return {min(group): "(", max(group): ")"}.get(place, "-")


def text_of(tie):
    return "".join(sign_of(tie, place) for place in range(tie[0]))


class Interface(unittest.TestCase):
    def test_names_stand_in_the_file(self):
        for name in ["told", "read"]:
            self.assertEqual(getattr(texts, name).__module__, "nocross.texts")

    def test_arguments_by_name(self):
        self.assertEqual(told(tie=finest(2)), "..")
        self.assertEqual(read(text=".."), finest(2))


class Texts(unittest.TestCase):
    """Point 15."""

    def check(self, text, tie):
        self.assertIs(type(told(tie)), str)
        self.assertEqual(told(tie), text)
        self.assertTrue(is_tie(read(text)), text)
        self.assertEqual(read(text), tie)

    def test_by_hand(self):
        self.check("(.-)()", made(6, [[0, 2, 3], [4, 5]]))
        self.check("((-)-)", made(6, [[0, 4, 5], [1, 2, 3]]))
        self.check(".(--).", made(6, [[1, 2, 3, 4]]))

    def test_of_one_and_two_places(self):
        self.check(".", (1, [(0,)]))
        self.check("..", (2, [(0,), (1,)]))
        self.check("()", (2, [(0, 1)]))

    def test_each_text_of_the_four_signs(self):
        for many in range(1, 8):
            ties = {text_of(tie): tie for tie in all_ties(many)}
            self.assertEqual(len(ties), len(all_ties(many)))
            for signs in itertools.product(SIGNS, repeat=many):
                text = "".join(signs)
                if text in ties:
                    self.check(text, ties[text])
                else:
                    with self.assertRaises(NoText, msg=text):
                        read(text)

    def test_large_rings(self):
        for tie in some_ties(60, 20, 31) + some_ties(59, 20, 32):
            self.check(text_of(tie), tie)

    def test_the_finest_and_the_coarsest(self):
        for many in range(2, 61):
            self.check("." * many, finest(many))
            self.check("(" + "-" * (many - 2) + ")", coarsest(many))

    def test_of_60_signs(self):
        self.check("(" * 30 + ")" * 30, made(60, [[place, 59 - place] for place in range(30)]))
        self.check("()" * 30, made(60, [[place, place + 1] for place in range(0, 60, 2)]))

    def test_no_text_of_other_lengths(self):
        for text in ["", "." * 61, "(" + "-" * 59 + ")", "()" * 30 + ".", "." * 62, "()" * 5000]:
            with self.assertRaises(NoText):
                read(text)

    def test_no_text_of_60_signs(self):
        for text in ["(" * 60, ")" * 60, "-" * 60, "." * 59 + "(", "." * 59 + ")", "()" * 29 + "-."]:
            with self.assertRaises(NoText):
                read(text)

    def test_no_text_of_other_signs(self):
        for sign in [" ", "\n", "\0", "x", "0", "[", "]", ",", "_", "\u2013", "\uff08", "\uff09", "\u00b7", "\ud800"]:
            for text in [sign, sign + ".", "." + sign, "(" + sign + ")", "()" + sign, "(" + sign]:
                with self.assertRaises(NoText, msg=repr(text)):
                    read(text)

    def test_no_text_at_all(self):
        for text in [b".", b"", 0, 1, 60, -1, True, False, None, 1.0, [], ["."], ["(", ")"], (".",), {".": 1}, {"."}]:
            with self.assertRaises(NoText, msg=repr(text)):
                read(text)
        with self.assertRaises(NoText):
            read(finest(1))


class Kept(unittest.TestCase):
    """Point 2, for nocross.texts."""

    def test_a_tie_that_is_told_stays(self):
        for tie in [finest(1), coarsest(4), made(5, [[0, 4], [1, 2]])]:
            before = (tie[0], list(tie[1]))
            text = told(tie)
            self.assertEqual(tie, before)
            tie[1].clear()
            self.assertEqual(text, told(before))

    def test_ties_read_have_lists_of_their_own(self):
        for text in [".", "..", "()", "(.-)()", "." * 60, "(" + "-" * 58 + ")"]:
            self.assertTrue(tells_own(read, text))

    def test_a_list_handed_in_as_a_text_stays(self):
        signs = ["(", ")"]
        with self.assertRaises(NoText):
            read(signs)
        self.assertEqual(signs, ["(", ")"])


if __name__ == "__main__":
    unittest.main()
