"""Promise [8]: units, back and forth."""

import unittest

from keytape.editor import Editor
from keytape.errors import BadKey, TooLong
from support import BREAK, DOWN, END, HOME, LAY, LEFT, RIGHT, RUB, TAKE, UP, editor_at, find, play, put, shown, till


class Back(unittest.TestCase):
    def test_none_at_first(self):
        editor = editor_at("abc", 0, 1)
        self.assertIs(editor.back(), False)
        self.assertIs(editor.forth(), False)
        self.assertEqual(shown(editor), ("abc", (0, 1), ""))

    def test_text_and_place_are_as_ahead_of_the_key(self):
        for key, ahead in [
            (put("x"), ("ab\ncd", 1, 1)), (BREAK, ("ab\ncd", 0, 1)), (RUB, ("ab\ncd", 1, 0)), (RUB, ("ab\ncd", 0, 2)),
            (TAKE, ("ab\ncd", 1, 0)),
        ]:
            with self.subTest(key=key, ahead=ahead):
                editor = editor_at(*ahead)
                self.assertTrue(editor.press(key))
                behind = (editor.text(), editor.place())
                self.assertIs(editor.back(), True)
                self.assertEqual((editor.text(), editor.place()), (ahead[0], ahead[1:]))
                self.assertIs(editor.back(), False)
                self.assertIs(editor.forth(), True)
                self.assertEqual((editor.text(), editor.place()), behind)
                self.assertIs(editor.forth(), False)

    def test_from_another_place(self):
        editor = editor_at("ab\ncd", 1, 1)
        editor.press(put("x"))
        editor.press(UP)
        editor.press(HOME)
        editor.back()
        self.assertEqual((editor.text(), editor.place()), ("ab\ncd", (1, 1)))
        editor.press(UP)
        editor.press(HOME)
        editor.forth()
        self.assertEqual((editor.text(), editor.place()), ("ab\ncxd", (1, 2)))
        editor.press(HOME)
        editor.back()
        self.assertEqual((editor.text(), editor.place()), ("ab\ncd", (1, 1)))

    def test_keys_that_leave_the_text_are_no_units(self):
        editor = editor_at("ab\nab", 0, 0)
        editor.press(put("x"))
        for key in (LEFT, RIGHT, DOWN, UP, HOME, END, find("b"), UP, UP, LAY):
            editor.press(key)
        self.assertTrue(editor.back())
        self.assertEqual((editor.text(), editor.place()), ("ab\nab", (0, 0)))
        self.assertFalse(editor.back())

    def test_a_play_that_leaves_the_text_is_no_unit(self):
        editor = Editor("abc")
        editor.tape("a", (put("x"), RUB, RIGHT))
        editor.tape("b", (TAKE, LAY))
        self.assertTrue(editor.press(play("a", 2)))
        self.assertTrue(editor.press(play("b")))
        self.assertEqual(shown(editor), ("abc", (0, 3), "c"))
        self.assertIs(editor.back(), False)
        self.assertEqual(editor.place(), (0, 3))

    def test_a_play_is_one_unit(self):
        editor = Editor("ab")
        editor.tape("a", (put("x"), play("b", 2), RIGHT))
        editor.tape("b", (put("y"), BREAK))
        editor.press(RIGHT)
        editor.press(play("a"))
        self.assertEqual((editor.text(), editor.place()), ("axy\ny\nb", (2, 1)))
        self.assertTrue(editor.back())
        self.assertEqual((editor.text(), editor.place()), ("ab", (0, 1)))
        self.assertFalse(editor.back())
        self.assertTrue(editor.forth())
        self.assertEqual((editor.text(), editor.place()), ("axy\ny\nb", (2, 1)))

    def test_a_till_is_one_unit(self):
        editor = Editor("ab")
        editor.tape("a", (put("-"), RIGHT))
        editor.press(till("a"))
        self.assertTrue(editor.back())
        self.assertEqual((editor.text(), editor.place()), ("ab", (0, 0)))
        self.assertFalse(editor.back())

    def test_a_key_that_does_not_fit_but_changed_the_text(self):
        editor = Editor("ab")
        editor.tape("a", (RIGHT, put("x"), UP))
        self.assertFalse(editor.press(play("a")))
        self.assertEqual(editor.text(), "axb")
        self.assertTrue(editor.back())
        self.assertEqual((editor.text(), editor.place()), ("ab", (0, 0)))
        self.assertTrue(editor.forth())
        self.assertEqual((editor.text(), editor.place()), ("axb", (0, 2)))

    def test_back_and_forth_until_there_is_none(self):
        editor = Editor("")
        signs = "abcdefghij"
        for sign in signs:
            editor.press(put(sign))
        for many in range(9, -1, -1):
            self.assertIs(editor.back(), True)
            self.assertEqual((editor.text(), editor.place()), (signs[:many], (0, many)))
        self.assertIs(editor.back(), False)
        self.assertIs(editor.back(), False)
        self.assertEqual((editor.text(), editor.place()), ("", (0, 0)))
        for many in range(1, 11):
            self.assertIs(editor.forth(), True)
            self.assertEqual((editor.text(), editor.place()), (signs[:many], (0, many)))
        self.assertIs(editor.forth(), False)
        self.assertIs(editor.forth(), False)
        self.assertEqual((editor.text(), editor.place()), (signs, (0, 10)))

    def test_the_clip_stays(self):
        editor = Editor("one two")
        editor.press(TAKE)
        self.assertTrue(editor.back())
        self.assertEqual(shown(editor), ("one two", (0, 0), "one"))
        editor.press(LAY)
        self.assertEqual(shown(editor), ("oneone two", (0, 3), "one"))
        editor.press(END)
        editor.press(LEFT)
        editor.press(TAKE)
        self.assertEqual(editor.clip(), "o")
        editor.back()
        editor.back()
        self.assertEqual(shown(editor), ("one two", (0, 0), "o"))
        editor.forth()
        self.assertEqual(shown(editor), ("oneone two", (0, 3), "o"))

    def test_forth_leaves_the_clip_too(self):
        editor = Editor("one two")
        editor.tape("a", (TAKE, LAY))
        editor.press(TAKE)
        editor.back()
        editor.press(find("two"))
        # A key that takes and lays leaves the text as it is, but another clip.
        editor.press(play("a"))
        self.assertEqual(editor.clip(), "two")
        self.assertTrue(editor.forth())
        self.assertEqual(shown(editor), (" two", (0, 0), "two"))


class Forth(unittest.TestCase):
    def taken_back(self):
        editor = Editor("ab")
        editor.press(put("x"))
        editor.press(put("y"))
        editor.back()
        editor.back()
        return editor

    def test_not_behind_a_key_that_changes_the_text(self):
        editor = self.taken_back()
        editor.press(put("z"))
        self.assertIs(editor.forth(), False)
        self.assertEqual((editor.text(), editor.place()), ("zab", (0, 1)))

    def test_not_behind_one_that_does_not_fit_but_changed_the_text(self):
        editor = self.taken_back()
        editor.tape("a", (put("z"), UP))
        self.assertFalse(editor.press(play("a")))
        self.assertFalse(editor.forth())
        self.assertEqual(editor.text(), "zab")

    def test_behind_keys_that_leave_the_text(self):
        editor = self.taken_back()
        editor.tape("a", (put("z"), RUB))
        for key in (RIGHT, END, HOME, UP, RUB, LAY, play("a"), play("b")):
            editor.press(key)
        self.assertTrue(editor.forth())
        self.assertEqual((editor.text(), editor.place()), ("xab", (0, 1)))
        self.assertTrue(editor.forth())
        self.assertEqual((editor.text(), editor.place()), ("xyab", (0, 2)))
        self.assertFalse(editor.forth())

    def test_behind_keys_that_are_refused_or_only_told(self):
        editor = self.taken_back()
        editor.tape("a", (put("z"), RUB))
        with self.assertRaises(TooLong):
            editor.press(till("a"))
        with self.assertRaises(BadKey):
            editor.press(("put", ""))
        editor.hand(put("z"))
        self.assertTrue(editor.forth())
        self.assertTrue(editor.forth())
        self.assertFalse(editor.forth())

    def test_a_new_unit_in_the_middle(self):
        editor = self.taken_back()
        editor.forth()
        editor.press(put("z"))
        self.assertFalse(editor.forth())
        self.assertEqual(editor.text(), "xzab")
        self.assertTrue(editor.back())
        self.assertEqual(editor.text(), "xab")
        self.assertTrue(editor.back())
        self.assertEqual(editor.text(), "ab")
        self.assertFalse(editor.back())
        self.assertTrue(editor.forth())
        self.assertTrue(editor.forth())
        self.assertFalse(editor.forth())
        self.assertEqual(editor.text(), "xzab")

    def test_forth_goes_where_the_unit_ended_whatever_a_tape_is_now(self):
        editor = Editor("")
        editor.tape("a", (put("x"),))
        editor.press(play("a"))
        editor.back()
        editor.tape("a", (put("y"),))
        self.assertTrue(editor.forth())
        self.assertEqual(editor.text(), "x")


if __name__ == "__main__":
    unittest.main()
