"""Promises [1] and [10]: texts of tapes, written and read, and what is refused of them."""

import itertools
import unittest

from keytape.editor import Editor
from keytape.errors import BadKeys, BadNames, BadTape
from keytape.notes import read, written
from support import (
    BREAK, DOWN, END, EVERY_KEY, HOME, LAY, LEFT, NAMES, NO_KEYS, NO_NAMES, RIGHT, RUB, TAKE, UP, RefusalCase, find,
    play, put, till,
)

# Tapes, and the text of them.
TEXTS = [
    ([], ""),
    ([("a", (put("x"),))], "a put x"),
    ([("h", (HOME, END))], "h home end"),
    ([("c", (BREAK, RUB, LEFT, RIGHT, UP, DOWN, HOME, END, TAKE, LAY))],
     "c break rub left right up down home end take lay"),
    ([("b", (put("a"), find("word"), play("a", 3), till("h")))], "b put a find word play a 3 till h"),
    ([("a", (play("a", 1), play("h", 9)))], "a play a 1 play h 9"),
    ([("a", (find("x"), find("wxyz")))], "a find x find wxyz"),
    # Words that look like others.
    ([("a", (find("find"), find("put"), find("a"), find("left"), put("9"), find("7")))],
     "a find find find put find a find left put 9 find 7"),
    # The blank and the tilde.
    ([("a", (put(" "), put("~"), put("_")))], "a put ~_ put ~~ put _"),
    ([("a", (find(" "), find("~"), find("_")))], "a find ~_ find ~~ find _"),
    ([("a", (find("    "), find("~~~~")))], "a find ~_~_~_~_ find ~~~~~~~~"),
    ([("a", (find(" bc"), find("b c"), find("bc ")))], "a find ~_bc find b~_c find bc~_"),
    ([("a", (find("~bc"), find("b~c"), find("bc~")))], "a find ~~bc find b~~c find bc~~"),
    ([("a", (find("~ "), find(" ~"), find("~_"), find("_~"), find("~~_"), find(" _ ~")))],
     "a find ~~~_ find ~_~~ find ~~_ find _~~ find ~~~~_ find ~__~_~~"),
    # Several tapes.
    ([("a", (LEFT,)), ("b", (RIGHT,))], "a left\nb right"),
    ([("a", (LEFT,)), ("c", (put(" "), LEFT)), ("h", (find("a b"),))], "a left\nc put ~_ left\nh find a~_b"),
    ([(name, (till(name),)) for name in NAMES], "\n".join(f"{name} till {name}" for name in NAMES)),
    # A tape of thirty keys.
    ([("a", (UP,) * 30), ("b", (find(" ~ ~"),) * 30)], "a" + " up" * 30 + "\nb" + " find ~_~~~_~~" * 30),
]

# What is no row of a tape.
NO_ROWS = [
    # No name, or a name alone.
    "", " ", "a", "h", "a ", " a", "left", "put x", "i left", "A left", "ab left", "aleft", "a,left", "~_ left",
    # Two blanks together, and blanks at the begin and the end.
    " a left", "a left ", "a  left", "a left  right", "a left right ", "  a left", "a left  ", "a put  ", "a put  x",
    "a put x  left", "a find  ", "a play  b 3", "a play b  3", "a play b 3 ", "a till  b", "a\tleft", "a left\tup",
    # Keys that are cut short.
    "a put", "a find", "a play", "a play b", "a till", "a put x find", "a left play b", "a left till", "a left put",
    "a play b left", "a till left", "a put left", "a put find x",
    # Words that are no key, or too much behind one.
    "a push", "a Left", "a LEFT", "a left1", "a x", "a 3", "a left x", "a left 3", "a put x y", "a find x y",
    "a play b 3 4", "a till b 1", "a left b right", "a ~~", "a ~_", "a lef~t", "a ~left", "a b left", "a a left",
    # Signs and words.
    "a put xy", "a put ~_~_", "a put ~~~~", "a put ~_x", "a find abcde", "a find ~~~~~~~~~~", "a find ~_~_~_~_~_",
    "a find abcd~_", "a put \u00e9", "a find a\u00e9", "a put \t", "a put \x7f", "a find a\tb", "a put \r",
    "a left\r", "a find a\x0bb", "a find a\u2028b",
    # A tilde that stands for nothing.
    "a put ~", "a find ~", "a put ~a", "a find ~a", "a find a~", "a find a~b", "a find ~~~", "a find ~~~a",
    "a find ~_~", "a find ~ ~", "a find ~-", "a put ~ left", "a find ~~~~~",
    # Plays and tills.
    "a play b 0", "a play b 10", "a play b -1", "a play b +1", "a play b 01", "a play b 1.", "a play b x",
    "a play b 1_0", "a play b \u0661", "a play b \u00b2", "a play i 1", "a play B 1", "a play bc 1", "a play 1 b",
    "a play 1", "a play ~~ 1", "a play b ~_", "a till i", "a till B", "a till bc", "a till 1",
    "a play b 11", "a play b 99", "a play b 1 1",
    # A thirty-first key.
    "a" + " up" * 31, "a" + " put x" * 31, "a" + " up" * 60, "a" + " up" * 30 + " put",
]



class Written(unittest.TestCase):
    def test_tapes_are_written(self):
        for tapes, text in TEXTS:
            with self.subTest(text):
                self.assertEqual(written(tapes), text)
                self.assertIs(type(written(tapes)), str)

    def test_every_number_and_name(self):
        for name, many in itertools.product(NAMES, range(1, 10)):
            self.assertEqual(written([("d", (play(name, many),))]), f"d play {name} {many}")
            self.assertEqual(written([(name, (till(name),))]), f"{name} till {name}")

    def test_nothing_handed_in_is_changed(self):
        for tapes, _ in TEXTS:
            copy = list(tapes)
            written(tapes)
            self.assertEqual(tapes, copy)

    def test_what_is_handed_in_may_be_changed_later(self):
        tapes = [("a", (LEFT,))]
        text = written(tapes)
        tapes.append(("b", (RIGHT,)))
        self.assertEqual(text, "a left")
        self.assertEqual(written(tapes), "a left\nb right")
        tapes.clear()
        self.assertEqual(written(tapes), "")

    def test_the_functions_are_defined_in_their_file(self):
        self.assertEqual((written.__module__, read.__module__), ("keytape.notes",) * 2)


class Read(unittest.TestCase):
    def assert_read_back(self, tapes):
        told = read(written(tapes))
        self.assertEqual(told, tapes)
        # True is 1 for ==, but no number.
        self.assertEqual(repr(told), repr(tapes))

    def test_texts_are_read(self):
        for tapes, text in TEXTS:
            with self.subTest(text):
                self.assertEqual(repr(read(text)), repr(tapes))

    def test_what_is_written_is_read_to_the_same(self):
        self.assert_read_back([(name, EVERY_KEY) for name in NAMES])
        self.assert_read_back([("b", EVERY_KEY[::-1]), ("f", EVERY_KEY[5:] + EVERY_KEY[:11])])

    def test_every_sign(self):
        for sign in map(chr, range(32, 127)):
            if sign != "\x25":
                self.assert_read_back([("a", (put(sign), find(sign), find(sign * 4), find("a" + sign), LEFT))])

    def test_every_word_of_blanks_and_tildes(self):
        for many in (1, 2, 3, 4):
            for signs in itertools.product(" ~_a", repeat=many):
                self.assert_read_back([("a", (find("".join(signs)), find("b")))])

    def test_every_number_of_times(self):
        for many in range(1, 10):
            self.assert_read_back([("a", (play("b", many), LEFT))])

    def test_what_is_read_may_be_taped(self):
        editor = Editor("one two three")
        for name, keys in read("a find o play b 2\nb put ~_ right"):
            editor.tape(name, keys)
        self.assertTrue(editor.press(play("a", 1)))
        self.assertEqual(editor.text(), "one tw o  three")

    def test_what_is_told_may_be_changed(self):
        told = read("a left\nb right")
        told.pop()
        told.append(1)
        self.assertEqual(read("a left\nb right"), [("a", (LEFT,)), ("b", (RIGHT,))])
        told = read("")
        told.append(("a", (LEFT,)))
        self.assertEqual(read(""), [])

    def test_the_kinds_of_what_is_told(self):
        told = read("a put x\nb play c 3")
        self.assertIs(type(told), list)
        self.assertEqual([type(tape) for tape in told], [tuple, tuple])
        self.assertEqual([type(keys) for _, keys in told], [tuple, tuple])
        self.assertEqual([type(key) for _, keys in told for key in keys], [tuple, tuple])


class NotWritten(RefusalCase):
    def assert_bad_names(self, tapes):
        copy = list(tapes)
        self.assert_error(BadNames, written, tapes)
        self.assertEqual(tapes, copy)

    def assert_bad_keys(self, at, tapes):
        copy = list(tapes)
        self.assertEqual(self.assert_error(BadKeys, written, tapes).at, at)
        self.assertEqual(tapes, copy)

    def test_names_that_do_not_rise(self):
        for names in ("aa", "ba", "ha", "aab", "abb", "aba", "acb", "abcdefgg", "bacdefgh", "abcdefhg", "abdcefgh"):
            with self.subTest(names):
                self.assert_bad_names([(name, (LEFT,)) for name in names])

    def test_names_of_no_tape(self):
        for name in NO_NAMES:
            with self.subTest(name):
                self.assert_bad_names([(name, (LEFT,))])
                self.assert_bad_names([("a", (LEFT,)), (name, (LEFT,))])
                self.assert_bad_names([(name, (LEFT,)), ("h", (LEFT,))])

    def test_keys_that_are_none(self):
        for key in NO_KEYS:
            with self.subTest(key=key):
                self.assert_bad_keys(0, [("a", (key,))])
                self.assert_bad_keys(2, [("a", (LEFT,)), ("b", (LEFT, RIGHT, key, key))])
                self.assert_bad_keys(29, [("a", (LEFT,) * 29 + (key,)), ("b", (key,))])

    def test_a_thirty_first_key(self):
        for key in (LEFT, ("push",)):
            self.assert_bad_keys(30, [("a", (LEFT,) * 30 + (key,))])
            self.assert_bad_keys(30, [("a", (LEFT,) * 30), ("b", (LEFT,) * 30 + (key,) * 9)])
        self.assert_bad_keys(4, [("a", (LEFT,) * 4 + (("push",),) + (LEFT,) * 30)])

    def test_an_empty_tape(self):
        self.assert_bad_names([("a", ())])
        self.assert_bad_names([("a", ()), ("b", (LEFT,))])
        self.assert_bad_names([("a", (LEFT,)), ("b", ()), ("c", (LEFT,))])
        self.assert_bad_names([("a", (LEFT,)), ("b", (RIGHT,)), ("h", ())])

    def test_names_ahead_of_keys(self):
        bad = (("push",),)
        self.assert_bad_names([("a", bad), ("a", (LEFT,))])
        self.assert_bad_names([("a", (LEFT,) * 31), ("c", (LEFT,)), ("b", (LEFT,))])
        self.assert_bad_names([("i", bad)])
        self.assert_bad_names([("a", bad), ("b", bad), ("i", bad)])

    def test_each_tape_in_turn(self):
        bad = (LEFT, ("push",))
        self.assert_bad_keys(1, [("a", bad), ("b", ())])
        self.assert_bad_names([("a", ()), ("b", bad)])
        self.assert_bad_keys(1, [("a", (LEFT,)), ("b", bad), ("c", (("push",),)), ("d", ())])
        self.assert_bad_names([("a", (LEFT,)), ("b", ()), ("c", bad)])


class NotRead(RefusalCase):
    def assert_bad_tape(self, line, text):
        self.assertEqual(self.assert_error(BadTape, read, text).line, line)

    def test_rows_that_are_no_tape(self):
        for row in NO_ROWS:
            with self.subTest(row):
                # The empty text is that of no tapes.
                if row != "":
                    self.assert_bad_tape(0, row)
                self.assert_bad_tape(0, row + "\nb left")
                self.assert_bad_tape(0, row + "\nb")

    def test_rows_behind_others_that_are_no_tape(self):
        for row in NO_ROWS:
            if row[:1] == "a":
                row = "d" + row[1:]
            with self.subTest(row):
                self.assert_bad_tape(1, "a left\n" + row)
                self.assert_bad_tape(1, "a left\n" + row + "\nh right")
                self.assert_bad_tape(2, "a left\nb up\n" + row)
                self.assert_bad_tape(2, "a left\nc up\n" + row + "\na left\n")

    def test_a_line_end_too_many(self):
        self.assert_bad_tape(0, "\n")
        self.assert_bad_tape(0, "\na left")
        self.assert_bad_tape(1, "a left\n")
        self.assert_bad_tape(1, "a left\n\nb left")
        self.assert_bad_tape(2, "a left\nb left\n")

    def test_names_that_do_not_rise(self):
        for line, names in ((0, "i"), (0, "zab"), (1, "aa"), (1, "ba"), (1, "hab"), (2, "abb"), (2, "acb"), (2, "aba"),
                            (2, "abaa"), (3, "abdcefgh"), (7, "abcdefgg"), (7, "abcdefga"), (7, "abcdefhg"),
                            (8, "abcdefghh"), (8, "abcdefghi")):
            with self.subTest(names):
                self.assert_bad_tape(line, "\n".join(f"{name} left" for name in names))

    def test_names_and_keys_in_turn(self):
        self.assert_bad_tape(1, "a left\na left\nc push")
        self.assert_bad_tape(1, "a left\nb push\na left")
        self.assert_bad_tape(0, "b push\na left")

    def test_line_ends_only_part_rows(self):
        for end in ("\r\n", "\r", "\x0b", "\x0c", "\x1c", "\x85", "\u2028"):
            self.assert_bad_tape(0, "a left" + end + "b left")


if __name__ == "__main__":
    unittest.main()
