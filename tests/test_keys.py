"""Promise [3]: each key that plays no tape, when it fits and what it does."""

import unittest

from keytape.editor import Editor
from support import BREAK, DOWN, END, HOME, LAY, LEFT, RIGHT, RUB, TAKE, UP, editor_at, find, put, shown

FULL = "x" * 60


class KeyCase(unittest.TestCase):
    def assert_fits(self, editor, key, text, place):
        clip = editor.clip()
        self.assertIs(editor.press(key), True)
        self.assertEqual((editor.text(), editor.place()), (text, place))
        if key != TAKE:
            self.assertEqual(editor.clip(), clip)

    def assert_does_not_fit(self, editor, key):
        ahead = shown(editor)
        self.assertIs(editor.press(key), False)
        self.assertEqual(shown(editor), ahead)


class Put(KeyCase):
    def test_at_begin_middle_and_end(self):
        self.assert_fits(editor_at("ab"), put("-"), "-ab", (0, 1))
        self.assert_fits(editor_at("ab", 0, 1), put("-"), "a-b", (0, 2))
        self.assert_fits(editor_at("ab", 0, 2), put("-"), "ab-", (0, 3))

    def test_in_an_empty_text_and_a_row_among_others(self):
        self.assert_fits(Editor(""), put("z"), "z", (0, 1))
        self.assert_fits(editor_at("ab\n\ncd", 1), put("z"), "ab\nz\ncd", (1, 1))
        self.assert_fits(editor_at("ab\ncd\nef", 1, 1), put("z"), "ab\nczd\nef", (1, 2))

    def test_first_and_last_sign(self):
        self.assert_fits(Editor("a"), put(" "), " a", (0, 1))
        self.assert_fits(Editor("a"), put("~"), "~a", (0, 1))

    def test_the_row_of_sixty(self):
        self.assert_fits(editor_at("x" * 59, 0, 59), put("y"), "x" * 59 + "y", (0, 60))
        for column in (0, 30, 60):
            self.assert_does_not_fit(editor_at(FULL, 0, column), put("y"))
        self.assert_fits(editor_at(FULL + "\n", 1), put("y"), FULL + "\ny", (1, 1))


class Break(KeyCase):
    def test_at_begin_middle_and_end(self):
        self.assert_fits(editor_at("ab"), BREAK, "\nab", (1, 0))
        self.assert_fits(editor_at("ab", 0, 1), BREAK, "a\nb", (1, 0))
        self.assert_fits(editor_at("ab", 0, 2), BREAK, "ab\n", (1, 0))

    def test_among_other_rows(self):
        self.assert_fits(editor_at("ab\ncd\nef", 1, 1), BREAK, "ab\nc\nd\nef", (2, 0))

    def test_twelve_rows(self):
        self.assert_fits(editor_at("ab" + "\n" * 10, 0, 1), BREAK, "a\nb" + "\n" * 10, (1, 0))
        self.assert_does_not_fit(editor_at("ab" + "\n" * 11, 0, 1), BREAK)
        self.assert_does_not_fit(editor_at("\n" * 11, 11), BREAK)


class Rub(KeyCase):
    def test_a_sign(self):
        self.assert_fits(editor_at("abc", 0, 1), RUB, "bc", (0, 0))
        self.assert_fits(editor_at("abc", 0, 2), RUB, "ac", (0, 1))
        self.assert_fits(editor_at("abc", 0, 3), RUB, "ab", (0, 2))
        self.assert_fits(editor_at("x\nabc\ny", 1, 2), RUB, "x\nac\ny", (1, 1))

    def test_at_a_rows_begin_the_rows_are_joined(self):
        self.assert_fits(editor_at("ab\ncd", 1), RUB, "abcd", (0, 2))
        self.assert_fits(editor_at("x\nab\ncd\ny", 2), RUB, "x\nabcd\ny", (1, 2))
        self.assert_fits(editor_at("\ncd", 1), RUB, "cd", (0, 0))
        self.assert_fits(editor_at("ab\n", 1), RUB, "ab", (0, 2))

    def test_at_the_texts_begin(self):
        self.assert_does_not_fit(Editor("ab"), RUB)
        self.assert_does_not_fit(Editor(""), RUB)
        self.assert_does_not_fit(Editor("\nab"), RUB)

    def test_sixty_signs_come_together_but_no_more(self):
        self.assert_fits(editor_at("x" * 20 + "\n" + "y" * 40, 1), RUB, "x" * 20 + "y" * 40, (0, 20))
        self.assert_does_not_fit(editor_at("x" * 21 + "\n" + "y" * 40, 1), RUB)
        self.assert_fits(editor_at(FULL + "\n", 1), RUB, FULL, (0, 60))
        self.assert_does_not_fit(editor_at(FULL + "\ny", 1), RUB)


class Moves(KeyCase):
    def test_left(self):
        self.assert_fits(editor_at("ab", 0, 2), LEFT, "ab", (0, 1))
        self.assert_fits(editor_at("ab", 0, 1), LEFT, "ab", (0, 0))
        self.assert_fits(editor_at("abc\nd", 1), LEFT, "abc\nd", (0, 3))
        self.assert_fits(editor_at("\n", 1), LEFT, "\n", (0, 0))
        self.assert_does_not_fit(Editor("ab"), LEFT)
        self.assert_does_not_fit(Editor("\nab"), LEFT)

    def test_right(self):
        self.assert_fits(editor_at("ab"), RIGHT, "ab", (0, 1))
        self.assert_fits(editor_at("ab", 0, 1), RIGHT, "ab", (0, 2))
        self.assert_fits(editor_at("abc\nd", 0, 3), RIGHT, "abc\nd", (1, 0))
        self.assert_fits(editor_at("\n"), RIGHT, "\n", (1, 0))
        self.assert_does_not_fit(editor_at("ab", 0, 2), RIGHT)
        self.assert_does_not_fit(editor_at("ab\n", 1), RIGHT)
        self.assert_does_not_fit(Editor(""), RIGHT)

    def test_up(self):
        self.assert_fits(editor_at("abc\ndef", 1, 2), UP, "abc\ndef", (0, 2))
        self.assert_fits(editor_at("a\ndef", 1, 3), UP, "a\ndef", (0, 1))
        self.assert_fits(editor_at("\ndef", 1, 3), UP, "\ndef", (0, 0))
        self.assert_fits(editor_at("abcdef\nde", 1, 2), UP, "abcdef\nde", (0, 2))
        self.assert_does_not_fit(editor_at("abc\ndef", 0, 2), UP)

    def test_down(self):
        self.assert_fits(editor_at("abc\ndef", 0, 2), DOWN, "abc\ndef", (1, 2))
        self.assert_fits(editor_at("abc\nd", 0, 3), DOWN, "abc\nd", (1, 1))
        self.assert_fits(editor_at("abc\n", 0, 3), DOWN, "abc\n", (1, 0))
        self.assert_does_not_fit(editor_at("abc\ndef", 1, 2), DOWN)
        self.assert_does_not_fit(Editor("abc"), DOWN)

    def test_a_column_that_was_lost_is_not_remembered(self):
        editor = editor_at("abc\n\nabc", 0, 3)
        editor.press(DOWN)
        self.assert_fits(editor, DOWN, "abc\n\nabc", (2, 0))

    def test_home_and_end(self):
        self.assert_fits(editor_at("abc\ndef", 1, 2), HOME, "abc\ndef", (1, 0))
        self.assert_fits(editor_at("abc\ndef", 1, 0), HOME, "abc\ndef", (1, 0))
        self.assert_fits(editor_at("abc\ndefg", 1, 2), END, "abc\ndefg", (1, 4))
        self.assert_fits(editor_at("abc", 0, 3), END, "abc", (0, 3))
        self.assert_fits(Editor(""), HOME, "", (0, 0))
        self.assert_fits(Editor(""), END, "", (0, 0))


class Find(KeyCase):
    def test_in_the_row(self):
        self.assert_fits(Editor("one two"), find("two"), "one two", (0, 4))
        self.assert_fits(editor_at("ab ab ab", 0, 1), find("ab"), "ab ab ab", (0, 3))

    def test_words_of_one_and_of_four_signs(self):
        self.assert_fits(Editor("one, two"), find("w"), "one, two", (0, 6))
        self.assert_fits(Editor("one, two"), find(", tw"), "one, two", (0, 3))
        self.assert_fits(Editor("one ~"), find("~"), "one ~", (0, 4))

    def test_in_a_row_below(self):
        text = "one\ntwo\nthree two"
        self.assert_fits(Editor(text), find("two"), text, (1, 0))
        self.assert_fits(editor_at(text, 1, 0), find("two"), text, (2, 6))
        self.assert_fits(editor_at(text, 0, 3), find("t"), text, (1, 0))

    def test_the_word_at_the_place_does_not_count(self):
        self.assert_fits(Editor("ab ab"), find("ab"), "ab ab", (0, 3))
        self.assert_does_not_fit(Editor("ab"), find("ab"))

    def test_words_that_overlap(self):
        editor = Editor("aaa")
        self.assert_fits(editor, find("aa"), "aaa", (0, 1))
        self.assert_does_not_fit(editor, find("aa"))

    def test_not_over_a_line_end(self):
        self.assert_does_not_fit(Editor("xa\nb"), find("ab"))

    def test_what_is_ahead_of_the_place_is_not_found(self):
        self.assert_does_not_fit(editor_at("ab\nab cd", 1, 3), find("ab"))
        self.assert_does_not_fit(editor_at("ab", 0, 2), find("b"))
        self.assert_does_not_fit(Editor(""), find("a"))

    def test_capitals_are_other_signs(self):
        self.assert_fits(Editor("xABab"), find("ab"), "xABab", (0, 3))


class TakeAndLay(KeyCase):
    def assert_takes(self, editor, clip, text, place):
        self.assert_fits(editor, TAKE, text, place)
        self.assertEqual(editor.clip(), clip)

    def test_take_at_begin_middle_and_up_to_the_end(self):
        self.assert_takes(editor_at("one two"), "one", " two", (0, 0))
        self.assert_takes(editor_at("one two", 0, 1), "ne", "o two", (0, 1))
        self.assert_takes(editor_at("one two", 0, 4), "two", "one ", (0, 4))
        self.assert_takes(editor_at("x\none\ny", 1), "one", "x\n\ny", (1, 0))

    def test_take_only_the_letters_a_to_z(self):
        self.assert_takes(Editor("azAaz"), "az", "Aaz", (0, 0))
        self.assert_takes(Editor("b1"), "b", "1", (0, 0))
        for sign in " `{A0~":
            self.assert_does_not_fit(Editor(sign + "a"), TAKE)

    def test_take_ends_with_the_row(self):
        self.assert_takes(editor_at("ab\ncd", 0, 1), "b", "a\ncd", (0, 1))

    def test_take_where_there_is_no_letter(self):
        self.assert_does_not_fit(editor_at("one two", 0, 3), TAKE)
        self.assert_does_not_fit(editor_at("one", 0, 3), TAKE)
        self.assert_does_not_fit(Editor("\nabc"), TAKE)
        self.assert_does_not_fit(Editor(""), TAKE)

    def test_the_clip_is_the_one_taken_last(self):
        editor = Editor("one two")
        editor.press(TAKE)
        editor.press(RIGHT)
        self.assert_takes(editor, "two", " ", (0, 1))
        self.assert_does_not_fit(editor, TAKE)
        self.assertEqual(editor.clip(), "two")

    def test_lay(self):
        editor = Editor("one two")
        editor.press(TAKE)
        self.assert_fits(editor, LAY, "one two", (0, 3))
        self.assert_fits(editor, LAY, "oneone two", (0, 6))
        editor.press(END)
        self.assert_fits(editor, LAY, "oneone twoone", (0, 13))
        self.assertEqual(editor.clip(), "one")

    def test_lay_in_another_row(self):
        editor = editor_at("one\ntwo\nx")
        editor.press(TAKE)
        editor.press(DOWN)
        editor.press(RIGHT)
        self.assert_fits(editor, LAY, "\ntonewo\nx", (1, 4))

    def test_lay_with_no_clip(self):
        self.assert_does_not_fit(Editor("one"), LAY)
        self.assert_does_not_fit(Editor(""), LAY)

    def test_lay_up_to_sixty_signs(self):
        editor = Editor("abc" + "\n" + "X" * 57 + "\n" + "X" * 58)
        editor.press(TAKE)
        editor.press(DOWN)
        self.assert_fits(editor, LAY, "\nabc" + "X" * 57 + "\n" + "X" * 58, (1, 3))
        self.assert_does_not_fit(editor, LAY)
        editor.press(DOWN)
        self.assert_does_not_fit(editor, LAY)


if __name__ == "__main__":
    unittest.main()
