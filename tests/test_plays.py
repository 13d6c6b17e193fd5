"""Promises [3] and [4]: plays and tills, where they end, their depth, TooLong, BadKey."""

import unittest

from keytape.editor import Editor
from keytape.errors import BadKey, TapeError, TooLong
from support import (
    DOWN, END, HOME, NO_KEYS, RIGHT, RUB, TAKE, UP, editor_at, find, play, put, told, shown, till,
)


def editor_with(text, **tapes):
    editor = Editor(text)
    for name, keys in tapes.items():
        editor.tape(name, keys)
    return editor


class Plays(unittest.TestCase):
    def test_once(self):
        editor = editor_with("xyz", a=(RIGHT, put("-")))
        self.assertIs(editor.press(play("a")), True)
        self.assertEqual(shown(editor), ("x-yz", (0, 2), ""))

    def test_nine_times(self):
        editor = editor_with("", a=(put("o"), put("-")))
        self.assertIs(editor.press(play("a", 9)), True)
        self.assertEqual(editor.text(), "o-" * 9)

    def test_each_name(self):
        for name in "abcdefgh":
            editor = editor_with("", **{name: (put(name),)})
            self.assertTrue(editor.press(play(name, 2)))
            self.assertEqual(editor.text(), name * 2)

    def test_a_tape_that_is_empty_fits(self):
        editor = editor_with("abc", b=())
        for key in (play("a"), play("a", 9), play("b", 9)):
            self.assertIs(editor.press(key), True)
        self.assertEqual(shown(editor), ("abc", (0, 0), ""))

    def test_a_tape_of_thirty_keys(self):
        editor = editor_with("", a=tuple(put(sign) for sign in "abcdefghijklmnopqrstuvwxyz0123"))
        self.assertTrue(editor.press(play("a")))
        self.assertEqual(editor.text(), "abcdefghijklmnopqrstuvwxyz0123")

    def test_tapes_that_play_others(self):
        editor = editor_with("", a=(play("b", 2), put("a")), b=(put("b"), play("c", 3)), c=(put("c"),))
        self.assertTrue(editor.press(play("a", 2)))
        self.assertEqual(editor.text(), "bcccbccca" * 2)

    def test_a_key_that_does_not_fit_ends_it_and_what_was_done_stays(self):
        editor = editor_with("", a=(put("x"), UP, put("y")))
        self.assertIs(editor.press(play("a", 3)), False)
        self.assertEqual(shown(editor), ("x", (0, 1), ""))

    def test_it_ends_in_a_later_turn(self):
        editor = editor_with("abcde", a=(TAKE, put("-"), RIGHT))
        self.assertIs(editor.press(play("a", 4)), False)
        self.assertEqual(shown(editor), ("-", (0, 1), "abcde"))

    def test_it_ends_all_plays_around(self):
        editor = editor_with("", a=(put("a"), play("b"), put("A")), b=(put("b"), play("c"), put("B")), c=(UP, put("c")))
        self.assertIs(editor.press(play("a", 2)), False)
        self.assertEqual(editor.text(), "ab")

    def test_the_clip_goes_through_a_play(self):
        editor = editor_with("one two", a=(TAKE, END, ("lay",)))
        self.assertTrue(editor.press(play("a")))
        self.assertEqual(shown(editor), (" twoone", (0, 7), "one"))


class Tills(unittest.TestCase):
    def test_until_a_key_does_not_fit(self):
        editor = editor_with("abc", a=(RIGHT, put("-")))
        self.assertIs(editor.press(till("a")), True)
        self.assertEqual(shown(editor), ("a-b-c-", (0, 6), ""))

    def test_what_was_done_in_the_last_turn_stays(self):
        editor = editor_with("ab", a=(put("-"), RIGHT))
        self.assertIs(editor.press(till("a")), True)
        self.assertEqual(editor.text(), "-a-b-")

    def test_a_first_key_that_does_not_fit(self):
        editor = editor_with("ab", a=(UP,))
        self.assertIs(editor.press(till("a")), True)
        self.assertEqual(shown(editor), ("ab", (0, 0), ""))

    def test_what_is_around_the_till_goes_on(self):
        editor = editor_with("ab", a=(till("b"), put("!")), b=(RIGHT,))
        self.assertIs(editor.press(play("a", 2)), True)
        self.assertEqual(editor.text(), "ab!!")

    def test_only_the_nearest_till_ends(self):
        editor = editor_with("a a\na\na a", a=(till("b"), HOME, DOWN), b=(find("a"), put("-")))
        self.assertIs(editor.press(till("a")), True)
        self.assertEqual(shown(editor), ("a -a\n-a\n-a -a", (2, 0), ""))

    def test_plays_between_the_key_and_the_till_end(self):
        editor = editor_with("", a=(till("b"), put("z")), b=(play("c", 5), put("b")), c=(put("c"), UP, put("C")))
        self.assertIs(editor.press(play("a")), True)
        self.assertEqual(editor.text(), "cz")

    def test_a_till_within_a_play_within_a_till(self):
        editor = editor_with(
            "ab cd\nef", a=(play("b", 2), HOME, DOWN), b=(till("c"), put("!")), c=(TAKE, RIGHT),
        )
        self.assertIs(editor.press(till("a")), True)
        self.assertEqual(shown(editor), (" \n!!", (1, 0), "ef"))

    def test_a_till_that_never_ends_is_too_long(self):
        for keys in ((), (HOME,), (put("x"), RUB)):
            editor = editor_with("abc", a=keys)
            with self.assertRaises(TooLong):
                editor.press(till("a"))
            self.assertEqual(shown(editor), ("abc", (0, 0), ""))


class Depth(unittest.TestCase):
    def test_a_tape_that_plays_itself_does_so_twenty_deep(self):
        editor = editor_with("", a=(put("x"), play("a"), put("y")))
        self.assertIs(editor.press(play("a")), False)
        self.assertEqual(editor.text(), "x" * 20)

    def test_tapes_that_play_each_other(self):
        # a is the 1st, 3rd .. 19th that is under way, b the 2nd .. 20th.
        editor = editor_with("", a=(put("a"), play("b")), b=(put("b"), play("a")))
        self.assertIs(editor.press(play("a")), False)
        self.assertEqual(editor.text(), "ab" * 10)

    def test_tills_count_as_plays_do(self):
        # The till is the first, and nineteen plays are within it.
        editor = editor_with("", a=(put("x"), play("a")))
        self.assertIs(editor.press(till("a")), True)
        self.assertEqual(editor.text(), "x" * 20)

    def test_a_till_or_play_within_twenty_does_not_fit_but_within_nineteen(self):
        # The twentieth x is within twenty, so what is played there is not, and its y is missing.
        for key in (till("b"), play("c"), play("c", 9), play("d")):
            with self.subTest(key):
                editor = editor_with("", a=(put("x"), key, put("y"), play("a")), b=(UP,), c=(), d=(HOME, END))
                self.assertIs(editor.press(play("a")), False)
                self.assertEqual(editor.text(), "xy" * 19 + "x")

    def test_a_till_around_goes_on_behind_what_is_too_deep(self):
        # The play of a is the first, the till the second, and eighteen plays are within it.
        editor = editor_with("", a=(till("b"), put("!")), b=(put("x"), play("b"), put("y")))
        self.assertIs(editor.press(play("a")), True)
        self.assertEqual(editor.text(), "x" * 19 + "!")

    def test_what_is_not_within_others_any_more_does_not_count(self):
        editor = editor_with("", a=tuple(play("b") for _ in range(30)), b=(put("x"),))
        self.assertIs(editor.press(play("a", 2)), True)
        self.assertEqual(editor.text(), "x" * 60)


class Long(unittest.TestCase):
    def assert_done(self, editor, key):
        self.assertIsInstance(editor.press(key), bool)

    def assert_too_long(self, editor, key):
        ahead = told(editor)
        for ask in (editor.press, editor.hand):
            with self.assertRaises(TooLong) as caught:
                ask(key)
            self.assertIsInstance(caught.exception, TapeError)
            self.assertIsInstance(caught.exception, ValueError)
            self.assertEqual(told(editor), ahead)

    def test_plays_and_their_turns(self):
        # 1 + 1 for b, 1 + 9 * 31 and 1 + 3 * 31 within it: 376, and so many homes.
        thirty = (HOME,) * 30
        for homes, done in ((23, True), (24, True), (25, False), (28, False)):
            with self.subTest(homes):
                editor = editor_with("abc", a=thirty, b=(play("a", 9), play("a", 3)) + (HOME,) * homes)
                if done:
                    self.assert_done(editor, play("b"))
                else:
                    self.assert_too_long(editor, play("b"))

    def test_a_till_its_last_turn_and_the_key_that_does_not_fit(self):
        # 1 + 1 for b; the till is 1, each of 197 turns 2, the last one 2: 399, and the homes.
        text = "\n".join(["x" * 60, "x" * 60, "x" * 60, "x" * 14])
        for homes, done in ((1, True), (2, False)):
            with self.subTest(homes):
                editor = editor_with(text, a=(RIGHT,), b=(till("a"),) + (HOME,) * homes)
                if done:
                    self.assert_done(editor, play("b"))
                else:
                    self.assert_too_long(editor, play("b"))

    def test_a_play_that_is_too_deep_is_one(self):
        # 1 + 1 for the till, so many homes, 19 plays of 20 each, and the one that doesn't fit.
        for homes, done in ((17, True), (18, False)):
            with self.subTest(homes):
                editor = editor_with("", a=(HOME,) * 18 + (play("a"),), b=(HOME,) * homes + (play("a"),))
                if done:
                    self.assert_done(editor, till("b"))
                else:
                    self.assert_too_long(editor, till("b"))

    def test_empty_tapes_are_played_too(self):
        # 1 + 9 for b's turns; each has 4 plays of 10 things: 370; with three more keys each: 397.
        nines = (play("a", 9),) * 4
        self.assert_done(editor_with("", b=nines + (HOME,) * 3), play("b", 9))
        self.assert_too_long(editor_with("", b=nines + (HOME,) * 4), play("b", 9))

    def test_behind_it_all_is_as_it_was(self):
        editor = editor_with("one two", a=(put("x"), RUB), b=(END, put("!"), till("a")))
        editor.press(TAKE)
        editor.press(("lay",))
        editor.press(HOME)
        editor.back()
        self.assert_too_long(editor, play("b"))
        self.assertTrue(editor.forth())
        self.assertEqual(shown(editor), ("one two", (0, 3), "one"))
        self.assertFalse(editor.forth())


class Refused(unittest.TestCase):
    def test_what_is_no_key(self):
        editor = editor_at("one two", 0, 4)
        editor.press(TAKE)
        editor.tape("a", (HOME,))
        ahead = told(editor)
        for key in NO_KEYS:
            for ask in (editor.press, editor.hand):
                with self.subTest(key=key, ask=ask.__name__):
                    with self.assertRaises(BadKey) as caught:
                        ask(key)
                    self.assertIsInstance(caught.exception, TapeError)
                    self.assertIsInstance(caught.exception, ValueError)
                    self.assertEqual(told(editor), ahead)
        self.assertTrue(editor.back())
        self.assertEqual(editor.text(), "one two")

    def test_a_list_is_no_key(self):
        for key in (["home"], ["put", "x"], []):
            with self.assertRaises(BadKey):
                Editor("one").press(key)

    def test_what_is_a_key(self):
        editor = Editor("one")
        for key in [put(" "), put("~"), put("1"), find("~"), find("1 2~"), play("a", 1), play("h", 9)]:
            with self.subTest(key):
                self.assertIsInstance(editor.press(key), bool)


if __name__ == "__main__":
    unittest.main()
