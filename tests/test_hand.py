"""Promises [1] and [7]: hand tells the keys that a key comes to, and changes nothing."""

import random
import unittest

from keytape.editor import Editor
from keytape.errors import TooLong
from support import (
    BREAK, DOWN, END, HOME, LAY, LEFT, NAMES, RIGHT, RUB, TAKE, UP, editor_at, find, play, put, shown, told, till,
)


class Hand(unittest.TestCase):
    def test_a_key_that_plays_nothing(self):
        editor = editor_at("abc", 0, 1)
        for key in (put("x"), BREAK, RUB, LEFT, RIGHT, HOME, END, find("c"), TAKE):
            self.assertEqual(editor.hand(key), [key])

    def test_a_key_that_does_not_fit(self):
        editor = Editor("")
        for key in (RUB, LEFT, RIGHT, UP, DOWN, find("c"), TAKE, LAY):
            self.assertEqual(editor.hand(key), [])

    def test_a_play_in_turn(self):
        editor = Editor("")
        editor.tape("a", (put("a"), play("b", 2), HOME))
        editor.tape("b", (put("b"), put("c")))
        keys = [put("a"), put("b"), put("c"), put("b"), put("c"), HOME]
        self.assertEqual(editor.hand(play("a", 2)), keys * 2)
        self.assertEqual(editor.hand(play("c")), [])

    def test_keys_that_do_not_fit_are_left_out(self):
        editor = Editor("ab")
        editor.tape("a", (till("b"), till("c"), put("!"), UP, put("?")))
        editor.tape("b", (RIGHT,))
        editor.tape("c", (LEFT, RUB))
        self.assertEqual(editor.hand(play("a")), [RIGHT, RIGHT, LEFT, RUB, put("!")])

    def test_too_deep_a_play_is_left_out(self):
        editor = Editor("")
        editor.tape("a", (put("x"), play("a")))
        self.assertEqual(editor.hand(play("a", 5)), [put("x")] * 20)

    def test_as_the_text_and_the_tapes_stand(self):
        editor = Editor("ab")
        editor.tape("a", (RIGHT,))
        self.assertEqual(editor.hand(till("a")), [RIGHT, RIGHT])
        editor.press(RIGHT)
        self.assertEqual(editor.hand(till("a")), [RIGHT])
        editor.tape("a", (put("x"), RIGHT, RIGHT))
        self.assertEqual(editor.hand(till("a")), [put("x"), RIGHT])

    def test_nothing_is_changed(self):
        editor = Editor("one two")
        editor.tape("a", (TAKE, END, put("-"), LAY))
        editor.press(put("x"))
        editor.back()
        editor.record("b")
        ahead = told(editor)
        self.assertEqual(editor.hand(play("a")), [TAKE, END, put("-"), LAY])
        self.assertEqual(editor.hand(play("a")), [TAKE, END, put("-"), LAY])
        self.assertEqual(told(editor), ahead)
        self.assertEqual(editor.stop(), 0)
        self.assertFalse(editor.back())
        self.assertTrue(editor.forth())
        self.assertEqual(editor.text(), "xone two")

    def test_what_is_told_may_be_changed(self):
        editor = Editor("")
        editor.tape("a", (put("x"),))
        keys = editor.hand(play("a", 2))
        keys.append(HOME)
        keys[0] = RUB
        self.assertEqual(editor.hand(play("a", 2)), [put("x"), put("x")])
        self.assertEqual(editor.tape_of("a"), (put("x"),))


TEXTS = ["", "one two three", "ab\n\ncd ef\nab", "x" * 60 + "\n" + "y" * 60, "\n" * 11, "aB cd\nEf gh\nab ab"]


def some_key(chance):
    """Any key, those that play somewhat more often than others."""
    kind = chance.choice(["put", "find", "play", "play", "play", "till", "till", "bare", "bare", "bare", "bare"])
    if kind == "put":
        return put(chance.choice("ab c"))
    if kind == "find":
        return find(chance.choice(["a", "b", " ", "ab", "ef", "c"]))
    if kind == "play":
        return play(chance.choice(NAMES), chance.randint(1, 9))
    if kind == "till":
        return till(chance.choice(NAMES))
    return chance.choice([BREAK, RUB, LEFT, RIGHT, UP, DOWN, HOME, END, TAKE, LAY])


class TypedByHand(unittest.TestCase):
    def typed(self, editor, keys):
        """An editor of the same text, place and clip, and the keys typed one by one."""
        typist = self.with_clip(editor)
        row, column = editor.place()
        while typist.press(UP):
            pass
        typist.press(HOME)
        for key in [DOWN] * row + [RIGHT] * column:
            typist.press(key)
        self.assertEqual(shown(typist), shown(editor))
        for key in keys:
            self.assertIs(typist.press(key), True)
        return typist

    def with_clip(self, editor):
        """An editor of the same text with the same clip; back leaves the clip as it is."""
        typist = Editor(editor.text())
        while typist.press(DOWN) or typist.press(RIGHT):
            pass
        while typist.press(RUB):
            pass
        for sign in editor.clip():
            typist.press(put(sign))
        typist.press(HOME)
        typist.press(TAKE)
        while typist.back():
            pass
        return typist

    def test_it_comes_to_the_same(self):
        chance = random.Random(20261119)
        many_played = 0
        for turn in range(600):
            editor = Editor(TEXTS[turn % len(TEXTS)])
            for name in NAMES[:5]:
                editor.tape(name, tuple(some_key(chance) for _ in range(chance.randint(0, 5))))
            for _ in range(12):
                key = some_key(chance)
                ahead = told(editor)
                try:
                    keys = editor.hand(key)
                except TooLong:
                    with self.assertRaises(TooLong):
                        editor.press(key)
                    self.assertEqual(told(editor), ahead)
                    continue
                self.assertEqual(told(editor), ahead)
                typist = self.typed(editor, keys)
                self.assertNotIn("play", [kind[0] for kind in keys])
                self.assertNotIn("till", [kind[0] for kind in keys])
                editor.press(key)
                self.assertEqual(shown(typist), shown(editor))
                many_played += len(keys) > 1
        self.assertGreater(many_played, 300)


if __name__ == "__main__":
    unittest.main()
