"""Promises [1] and [2]: texts, places, the clip, BadText."""

import unittest

from keytape.editor import Editor
from keytape.errors import BadText, TapeError

ALL_SIGNS = "".join(chr(code) for code in range(32, 127) if code != 37)


class Texts(unittest.TestCase):
    def assert_text(self, text):
        editor = Editor(text)
        self.assertEqual(editor.text(), text)
        self.assertEqual(editor.place(), (0, 0))
        self.assertEqual(editor.clip(), "")

    def assert_no_text(self, text):
        with self.assertRaises(BadText) as caught:
            Editor(text)
        self.assertIsInstance(caught.exception, TapeError)
        self.assertIsInstance(caught.exception, ValueError)

    def test_ordinary_texts(self):
        for text in ["a", "one two", "one\ntwo", "one\n\nthree\n", " ", "A-1~"]:
            with self.subTest(text):
                self.assert_text(text)

    def test_the_empty_text_is_one_row(self):
        self.assert_text("")
        self.assertFalse(Editor("").press(("down",)))

    def test_a_line_end_at_the_end_begins_one_more_row(self):
        editor = Editor("a\n")
        self.assertTrue(editor.press(("down",)))
        self.assertEqual(editor.place(), (1, 0))

    def test_all_signs(self):
        self.assert_text(ALL_SIGNS[:60])
        self.assert_text(ALL_SIGNS[60:])

    def test_twelve_rows_and_one_more(self):
        self.assert_text("\n".join(["row"] * 12))
        self.assert_text("\n" * 11)
        self.assert_no_text("\n".join(["row"] * 13))
        self.assert_no_text("\n" * 12)

    def test_sixty_signs_and_one_more(self):
        self.assert_text("x" * 60)
        self.assert_text("\n".join(["x" * 60] * 12))
        self.assert_no_text("x" * 61)
        self.assert_no_text("\n".join(["x" * 60] * 11 + ["x" * 61]))

    def test_other_signs(self):
        for sign in ["\t", "\r", "\x00", "\x1f", "\x7f", "\x0b", "\x0c", "\x85", "\u00e9", "\u2028"]:
            with self.subTest(repr(sign)):
                self.assert_no_text(sign)
                self.assert_no_text("a" + sign + "b")
                self.assert_no_text("row\nrow" + sign)

    def test_only_the_line_feed_is_a_line_end(self):
        self.assert_no_text("a\r\nb")


class Told(unittest.TestCase):
    def test_the_same_is_told_again(self):
        editor = Editor("one\ntwo")
        editor.press(("take",))
        editor.press(("down",))
        for _ in range(3):
            self.assertEqual(editor.text(), "\ntwo")
            self.assertEqual(editor.place(), (1, 0))
            self.assertEqual(editor.clip(), "one")

    def test_the_kinds_of_values(self):
        editor = Editor("one")
        self.assertIs(type(editor.place()), tuple)
        self.assertEqual([type(number) for number in editor.place()], [int, int])
        self.assertIs(type(editor.press(("end",))), bool)
        self.assertIs(type(editor.press(("down",))), bool)
        self.assertIs(type(editor.back()), bool)
        self.assertIs(type(editor.forth()), bool)
        self.assertIs(type(editor.hand(("home",))), list)
        self.assertIs(type(editor.tape_of("a")), tuple)
        self.assertIsNone(editor.tape("a", ()))
        self.assertIsNone(editor.record("a"))
        self.assertIs(type(editor.stop()), int)

    def test_two_editors_have_nothing_in_common(self):
        one, other = Editor("one"), Editor("one")
        one.tape("a", (("end",),))
        one.record("b")
        one.press(("take",))
        self.assertEqual((other.text(), other.clip(), other.tape_of("a")), ("one", "", ()))
        self.assertFalse(other.back())
        self.assertIsNone(other.record("b"))


if __name__ == "__main__":
    unittest.main()
