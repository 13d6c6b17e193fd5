"""Promises [1], [5] and [6]: tape, tape_of, record, stop, and what they refuse."""

import unittest

from keytape.editor import Editor
from keytape.errors import BadKey, BadKeys, BadName, NotTaping, Taping, TooLong
from support import (
    DOWN, END, EVERY_KEY, HOME, LAY, LEFT, NAMES, NO_KEYS, NO_NAMES, RIGHT, RUB, TAKE, UP, RefusalCase, play, put,
    told, till,
)


class Case(RefusalCase):
    def assert_refused(self, error, editor, ask, *handed):
        ahead = told(editor)
        caught = self.assert_error(error, ask, *handed)
        self.assertEqual(told(editor), ahead)
        return caught


class Tape(Case):
    def test_tapes_are_empty_at_first(self):
        for name in NAMES:
            self.assertEqual(Editor("abc").tape_of(name), ())

    def test_a_tape_of_every_kind_of_key(self):
        for name in NAMES:
            editor = Editor("abc")
            self.assertIsNone(editor.tape(name, EVERY_KEY))
            self.assertEqual(editor.tape_of(name), EVERY_KEY)
            self.assertEqual([editor.tape_of(other) for other in NAMES if other != name], [()] * 7)

    def test_a_tape_of_none_and_of_thirty_keys(self):
        editor = Editor("")
        editor.tape("a", (HOME,) * 30)
        self.assertEqual(editor.tape_of("a"), (HOME,) * 30)
        editor.tape("a", ())
        self.assertEqual(editor.tape_of("a"), ())

    def test_making_a_tape_does_none_of_it(self):
        editor = Editor("abc")
        editor.tape("a", (put("x"), END))
        self.assertEqual((editor.text(), editor.place()), ("abc", (0, 0)))

    def test_the_tape_made_last_is_played(self):
        editor = Editor("")
        editor.tape("a", (put("x"),))
        editor.tape("b", (play("a"),))
        editor.tape("a", (put("y"),))
        editor.press(play("b"))
        self.assertEqual(editor.text(), "y")

    def test_one_key_more_than_thirty(self):
        for many in (31, 32, 40):
            editor = Editor("")
            editor.tape("b", (END,))
            refusal = self.assert_refused(BadKeys, editor, editor.tape, "b", (HOME,) * many)
            self.assertEqual(refusal.at, 30)

    def test_the_first_that_is_no_key(self):
        editor = Editor("")
        editor.tape("b", (END,))
        for no_key in NO_KEYS:
            for at in (0, 3, 29):
                with self.subTest(key=no_key, at=at):
                    keys = (HOME,) * at + (no_key,)
                    self.assertEqual(self.assert_refused(BadKeys, editor, editor.tape, "b", keys).at, at)

    def test_the_first_of_several(self):
        editor = Editor("")
        keys = (HOME, ("push",), HOME, ()) + (HOME,) * 40
        self.assertEqual(self.assert_refused(BadKeys, editor, editor.tape, "b", keys).at, 1)
        keys = (HOME,) * 29 + (("push",),) + (HOME,) * 5
        self.assertEqual(self.assert_refused(BadKeys, editor, editor.tape, "b", keys).at, 29)
        keys = (HOME,) * 31 + (("push",),)
        self.assertEqual(self.assert_refused(BadKeys, editor, editor.tape, "b", keys).at, 30)
        keys = (HOME,) * 30 + (("push",),)
        self.assertEqual(self.assert_refused(BadKeys, editor, editor.tape, "b", keys).at, 30)

    def test_names(self):
        for name in NO_NAMES:
            with self.subTest(name):
                editor = Editor("")
                self.assert_refused(BadName, editor, editor.tape, name, (HOME,))
                self.assert_refused(BadName, editor, editor.tape_of, name)
                self.assert_refused(BadName, editor, editor.record, name)

    def test_the_name_is_refused_first(self):
        editor = Editor("")
        self.assert_refused(BadName, editor, editor.tape, "i", (("push",),))
        self.assert_refused(BadName, editor, editor.tape, "", (HOME,) * 31)


class Record(Case):
    def test_keys_are_taped(self):
        editor = Editor("one two")
        self.assertIsNone(editor.record("c"))
        keys = (TAKE, END, put("-"), LAY, HOME)
        for key in keys:
            self.assertTrue(editor.press(key))
        self.assertEqual(editor.stop(), 5)
        self.assertEqual(editor.tape_of("c"), keys)
        self.assertEqual(editor.text(), " two-one")

    def test_only_what_is_pressed_from_then_on_until_the_stop(self):
        editor = Editor("abc")
        editor.press(END)
        editor.record("a")
        editor.press(HOME)
        editor.stop()
        editor.press(RIGHT)
        self.assertEqual(editor.tape_of("a"), (HOME,))

    def test_keys_that_do_not_fit_too(self):
        editor = Editor("abc")
        editor.record("a")
        self.assertFalse(editor.press(UP))
        self.assertTrue(editor.press(RIGHT))
        self.assertFalse(editor.press(DOWN))
        self.assertEqual(editor.stop(), 3)
        self.assertEqual(editor.tape_of("a"), (UP, RIGHT, DOWN))

    def test_a_play_is_taped_as_the_key_that_it_is(self):
        editor = Editor("")
        editor.tape("b", (put("x"), put("y")))
        editor.tape("c", (RUB,))
        editor.record("a")
        editor.press(play("b", 2))
        editor.press(till("c"))
        self.assertEqual(editor.stop(), 2)
        self.assertEqual(editor.tape_of("a"), (play("b", 2), till("c")))

    def test_refused_keys_are_not_taped(self):
        editor = Editor("abc")
        editor.record("a")
        editor.press(RIGHT)
        self.assert_refused(TooLong, editor, editor.press, till("b"))
        self.assert_refused(BadKey, editor, editor.press, ("push",))
        editor.press(LEFT)
        self.assertEqual(editor.stop(), 2)
        self.assertEqual(editor.tape_of("a"), (RIGHT, LEFT))

    def test_what_is_no_key_press_is_not_taped(self):
        editor = Editor("abc")
        editor.record("a")
        editor.press(put("x"))
        editor.hand(put("y"))
        editor.back()
        editor.forth()
        editor.tape("b", (HOME,))
        self.assertEqual(editor.stop(), 1)
        self.assertEqual(editor.tape_of("a"), (put("x"),))

    def test_no_key_at_all_makes_the_tape_empty(self):
        editor = Editor("abc")
        editor.tape("a", (HOME,))
        editor.record("a")
        self.assertEqual(editor.stop(), 0)
        self.assertEqual(editor.tape_of("a"), ())

    def test_the_tape_stays_as_it_was_until_the_stop(self):
        editor = Editor("")
        editor.tape("a", (put("x"),))
        editor.record("a")
        editor.press(put("y"))
        self.assertEqual(editor.tape_of("a"), (put("x"),))
        self.assertEqual(editor.hand(play("a")), [put("x")])
        self.assertTrue(editor.press(play("a", 2)))
        self.assertEqual(editor.text(), "yxx")
        self.assertEqual(editor.stop(), 2)
        self.assertEqual(editor.tape_of("a"), (put("y"), play("a", 2)))

    def test_thirty_keys_and_more(self):
        signs = "abcdefghijklmnopqrstuvwxyz0123456789"
        for many in (29, 30, 31, 36):
            with self.subTest(many):
                editor = Editor("")
                editor.record("h")
                keys = tuple(put(sign) for sign in signs[:many])
                for key in keys:
                    editor.press(key)
                self.assertEqual(editor.stop(), many)
                self.assertEqual(editor.tape_of("h"), keys[max(0, many - 30):])

    def test_a_second_recording_begins_anew(self):
        editor = Editor("abc")
        editor.record("a")
        editor.press(RIGHT)
        editor.stop()
        editor.record("b")
        editor.press(LEFT)
        self.assertEqual(editor.stop(), 1)
        self.assertEqual((editor.tape_of("a"), editor.tape_of("b")), ((RIGHT,), (LEFT,)))

    def test_taping(self):
        editor = Editor("abc")
        editor.record("a")
        editor.press(RIGHT)
        self.assert_refused(Taping, editor, editor.record, "b")
        self.assert_refused(Taping, editor, editor.record, "a")
        self.assert_refused(BadName, editor, editor.record, "i")
        editor.press(LEFT)
        self.assertEqual(editor.stop(), 2)
        self.assertEqual((editor.tape_of("a"), editor.tape_of("b")), ((RIGHT, LEFT), ()))

    def test_not_taping(self):
        editor = Editor("abc")
        self.assert_refused(NotTaping, editor, editor.stop)
        editor.record("a")
        editor.press(RIGHT)
        editor.stop()
        self.assert_refused(NotTaping, editor, editor.stop)
        self.assertEqual(editor.tape_of("a"), (RIGHT,))
        editor.record("a")
        self.assertEqual(editor.stop(), 0)


if __name__ == "__main__":
    unittest.main()
