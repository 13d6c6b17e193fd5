"""Promises [1] and [9]: alike, held against the editor itself, and what it refuses."""

import itertools
import unittest

from keytape.alike import alike
from keytape.errors import BadKeys, BadNumbers
from support import (
    BREAK, DOWN, END, EVERY_KEY, HOME, LAY, LEFT, NO_KEYS, RIGHT, RUB, TAKE, UP, RefusalCase, editor_at, find, play,
    put, till,
)

A = put("a")
B = put("b")
PLAIN = (A, RUB, LEFT, RIGHT, HOME, END)
SIGNS = "ABCDEFGHIJKLMNOPQRSTUVWXYZ"
NO_NUMBERS = (-1, 10, 11, 60, -9, True, False)

# Two tapes, and the numbers left and right from which on they are alike; with one less of either
# they are not.
FROM_ON = [
    ((), (), 0, 0),
    ((A,), (A,), 0, 0),
    ((LEFT,) * 6, (LEFT,) * 6, 0, 0),
    # What comes to the same in different ways.
    ((A, B), (B, LEFT, A, RIGHT), 0, 0),
    ((A, B), (A, A, RUB, B), 0, 0),
    ((A, A, RUB, RUB), (), 0, 0),
    ((A, A, LEFT, RUB, RIGHT), (A,), 0, 0),
    # On rows of fifty-nine signs they differ, but such are not asked of.
    ((A, B, LEFT, RUB, RIGHT), (B,), 0, 0),
    ((A, LEFT), (A, B, RUB, LEFT), 0, 0),
    ((HOME, END), (END,), 0, 0),
    ((END, END, HOME, HOME), (HOME,), 0, 0),
    ((END, A, HOME), (HOME, END, A, HOME), 0, 0),
    ((HOME, A, END, B), (END, B, HOME, A, END), 0, 0),
    ((put(" "), LEFT, put("~")), (put("~"), put(" "), LEFT), 0, 0),
    # One of them ends at a key that doesn't fit, the other one doesn't.
    ((HOME, LEFT, A), (HOME,), 0, 0),
    ((HOME, RUB, A), (HOME, LEFT, B), 0, 0),
    ((END, RIGHT, A), (END,), 0, 0),
    ((HOME, A, LEFT, LEFT, B), (HOME, A, LEFT), 0, 0),
    ((LEFT, RIGHT), (), 0, 0),
    ((RIGHT, LEFT), (), 0, 0),
    ((LEFT, LEFT, RIGHT), (LEFT,), 0, 0),
    ((LEFT, A, RUB, RIGHT), (), 0, 0),
    # The same on rows alone that have so many signs ahead of the place, or behind it, or both.
    ((RUB, A), (A, LEFT, RUB, RIGHT), 1, 0),
    ((LEFT, RIGHT, A), (A,), 1, 0),
    ((RIGHT, LEFT, A), (A,), 0, 1),
    ((LEFT, LEFT, RIGHT, RIGHT, A), (A,), 2, 0),
    ((RIGHT, RIGHT, LEFT, LEFT, A), (A,), 0, 2),
    ((LEFT, RUB, RIGHT, RUB), (RUB, RUB), 2, 0),
    ((RIGHT, RUB, RIGHT, RUB), (RIGHT, RIGHT, RUB, RUB), 0, 2),
    ((LEFT, RIGHT, RIGHT, LEFT, A), (A,), 1, 1),
    ((RIGHT, LEFT, LEFT, RIGHT, A), (A,), 1, 1),
    ((LEFT,) * 3 + (RIGHT,) * 3, (), 3, 0),
    ((RIGHT,) * 3 + (LEFT,) * 3, (), 0, 3),
    ((RUB, RUB, RUB, A), (LEFT, RUB, RUB, RIGHT, RUB, A), 3, 0),
    # The same on long rows alone, wherever the place is.
    ((HOME,) + (RIGHT,) * 3 + (LEFT,) * 2, (HOME, RIGHT), 0, 3),
    ((HOME,) + (RIGHT,) * 3 + (LEFT,) * 2, (HOME, RIGHT), 1, 2),
    ((HOME,) + (RIGHT,) * 3 + (LEFT,) * 2, (HOME, RIGHT), 3, 0),
    ((HOME, RIGHT, RUB), (HOME, RIGHT, RIGHT, LEFT, RUB), 1, 1),
]

# Two tapes, and left and right, with which they are not alike.
APART = [
    ((), (A,), 0, 0),
    ((), (A,), 9, 9),
    ((A,), (B,), 0, 0),
    ((A, B), (B, A), 3, 9),
    ((A,), (A, LEFT), 0, 0),
    # The row is the same, the place is not, and the other way about.
    ((A, LEFT, A), (A, A), 0, 0),
    ((A, HOME), (B, HOME), 9, 0),
    # The same on rows with an `a` where the place is, or ahead of it.
    ((A, RIGHT), (RIGHT, A), 0, 1),
    ((A, LEFT, LEFT), (LEFT, A, LEFT), 1, 0),
    ((RUB, A), (), 0, 0),
    ((RUB, A), (), 9, 9),
    ((END, RUB, A), (END,), 0, 9),
    ((HOME, RIGHT, RUB, put("z")), (HOME, RIGHT), 9, 0),
    # The same on rows that begin, or end, with an `a`, or with `abc`.
    ((HOME, A, RIGHT), (HOME, RIGHT, A), 1, 0),
    ((END, LEFT, A, RIGHT), (END, A), 0, 1),
    ((HOME, A, B, put("c")), (HOME, RIGHT, RIGHT, RIGHT, A, B), 9, 9),
    # The same where all signs are alike.
    ((HOME, RIGHT, RUB, END), (END, RUB), 3, 3),
    ((RUB, RUB), (LEFT, RUB, RUB, RIGHT), 9, 9),
    ((RUB, RIGHT), (RIGHT, RUB), 9, 9),
    # The same on rows of no sign, of one, or a few.
    ((LEFT,), (), 0, 0),
    ((RIGHT,), (), 0, 0),
    ((HOME,), (END,), 0, 0),
    ((RUB,), (), 0, 0),
    ((HOME,), (LEFT,), 0, 0),
    ((HOME,), (LEFT,) * 6, 0, 0),
    ((END,), (RIGHT,) * 6, 0, 0),
    ((RUB,) * 6, (RUB,) * 5, 0, 0),
    ((END,), (HOME,) + (RIGHT,) * 5, 0, 0),
    ((HOME,), (END,) + (LEFT,) * 5, 0, 0),
    ((END,) + (RUB,) * 5, (END,) + (RUB,) * 4, 0, 0),
    # The same with just so many signs ahead of the place, or behind it, as are asked for.
    ((HOME,) + (RIGHT,) * 5, (LEFT,) * 4, 9, 0),
    ((HOME,) + (RIGHT,) * 5, (LEFT,) * 4, 9, 9),
    ((END,) + (LEFT,) * 5, (RIGHT,) * 4, 0, 9),
    ((END,) + (LEFT,) * 5, (RIGHT,) * 4, 9, 9),
    ((HOME, RIGHT, RIGHT), (LEFT,), 3, 0),
    ((END, LEFT, LEFT), (RIGHT,), 0, 3),
    ((HOME, RIGHT, RIGHT, A), (END, LEFT, LEFT, A), 2, 2),
]


def come_to(keys, row, column):
    """What a tape comes to, played once in an editor."""
    editor = editor_at(row, 0, column)
    editor.tape("a", keys)
    editor.press(play("a"))
    return (editor.text(), editor.place())


def simply_come_to(keys, row, column):
    """The same, of a row that is a list of anything."""
    row = list(row)
    for key in keys:
        if key in (LEFT, RUB) and column == 0 or key == RIGHT and column == len(row):
            break
        if key[0] == "put":
            row.insert(column, key[1])
        if key == RUB:
            del row[column - 1]
        after = {LEFT: column - 1, RUB: column - 1, RIGHT: column + 1, HOME: 0, END: len(row)}
        column = after.get(key, column + 1)
    return (row, column)


def are_alike(one, other, left, right):
    """What alike shall tell, of rows in which no two signs are the same, nor one that is put."""
    for ahead in range(left, 13):
        for behind in range(right, 13):
            row = range(ahead + behind)
            if simply_come_to(one, row, ahead) != simply_come_to(other, row, ahead):
                return False
    return True


class AlikeCase(RefusalCase):
    def assert_alike(self, one, other, left, right):
        """They are called alike, and the editor does the same on rows of many kinds."""
        self.assertIsNone(alike(one, other, left, right))
        self.assertIsNone(alike(other, one, left, right))
        for ahead, behind in itertools.product((0, 1, 2, 5, 7, 14), (0, 1, 2, 5, 7, 14)):
            ahead += left
            behind += right
            for signs in (SIGNS, "a", "ab", "ba", " ~"):
                row = (signs * 50)[:ahead + behind]
                self.assertEqual(come_to(one, row, ahead), come_to(other, row, ahead), (row, ahead))

    def assert_parted(self, one, other, left, right):
        """A row of the kind is told, on which the editor comes to something else by one and by the other."""
        for first, second in ((one, other), (other, one)):
            witness = alike(first, second, left, right)
            self.assertIs(type(witness), tuple)
            row, column = witness
            self.assertIs(type(row), str)
            self.assertIs(type(column), int)
            self.assertLessEqual(len(row), 40)
            self.assertTrue(all(" " <= sign <= "~" and sign != "\x25" for sign in row), row)
            self.assertGreaterEqual(column, left)
            self.assertGreaterEqual(len(row) - column, right)
            self.assertNotEqual(come_to(first, row, column), come_to(second, row, column), witness)

    def assert_told(self, one, other, left, right):
        """What is told is what the simple way tells."""
        if are_alike(one, other, left, right):
            self.assertIsNone(alike(one, other, left, right))
        else:
            self.assert_parted(one, other, left, right)


class Alike(AlikeCase):
    def test_alike_from_so_many_signs_on(self):
        for one, other, left, right in FROM_ON:
            with self.subTest(one=one, other=other):
                self.assert_alike(one, other, left, right)
                self.assert_alike(one, other, 9, 9)
                if left > 0:
                    self.assert_parted(one, other, left - 1, right)
                if right > 0:
                    self.assert_parted(one, other, left, right - 1)

    def test_apart(self):
        for one, other, left, right in APART:
            with self.subTest(one=one, other=other, left=left, right=right):
                self.assert_parted(one, other, left, right)

    def test_each_two_of_the_shortest_tapes(self):
        shortest = [keys for many in (0, 1, 2) for keys in itertools.product(PLAIN, repeat=many)]
        for one, other in itertools.combinations_with_replacement(shortest, 2):
            with self.subTest(one=one, other=other):
                self.assert_told(one, other, 0, 0)
                self.assert_told(one, other, 1, 2)

    def test_tapes_of_six_keys(self):
        # Two keys more, that undo each other where they fit, and a bit of a change now and then.
        fours = list(itertools.product(PLAIN[1:], repeat=4))[::29]
        more = ((LEFT, RIGHT), (RIGHT, LEFT), (A, RUB), (B, LEFT))
        for number, keys in enumerate(fours):
            for at in range(5):
                other = keys[:at] + more[(number + at) % 4] + keys[at:]
                with self.subTest(one=keys, other=other):
                    self.assert_told(keys, other, 0, 0)
                    self.assert_told(keys + (HOME,), other, number % 4, at)
                    self.assert_told(keys + (END, RUB), other, 9, 9)

    def test_tapes_that_differ_by_one_key_of_six(self):
        for at, first, second in itertools.product(range(6), PLAIN, PLAIN):
            keys = (RUB, A, LEFT, LEFT, RIGHT)
            one = keys[:at] + (first,) + keys[at:]
            other = keys[:at] + (second,) + keys[at:]
            with self.subTest(one=one, other=other):
                self.assert_told(one, other, 0, 0)
                self.assert_told(one, other, 5, 3)

    def test_all_numbers_left_and_right(self):
        for left, right in itertools.product(range(10), range(10)):
            with self.subTest(left=left, right=right):
                self.assert_parted((A,), (B,), left, right)
                self.assert_parted((), (A,) * 6, left, right)
                self.assertIsNone(alike((A, LEFT), (A, B, RUB, LEFT), left, right))
                told = alike((RUB, RUB, A), (RUB, A, LEFT, RUB, RIGHT), left, right)
                self.assertEqual(told is None, left >= 2)

    def test_each_sign_that_is_put(self):
        for sign in map(chr, range(32, 127)):
            if sign != "\x25":
                with self.subTest(sign):
                    self.assert_parted((HOME, put(sign), RIGHT), (HOME, RIGHT, put(sign)), 1, 0)
                    self.assert_parted((END, LEFT, put(sign), RIGHT), (END, put(sign)), 0, 1)
                    self.assertIsNone(alike((HOME, put(sign), LEFT), (HOME, put(sign), A, RUB, LEFT), 0, 1))

    def test_twelve_signs_that_are_put(self):
        for signs in ("abcdefghijkl", "ABCDEFGHIJKL", "0123456789 ~", "lkjihgfedcba"):
            one = tuple(put(sign) for sign in signs[:6])
            other = tuple(put(sign) for sign in signs[6:])
            self.assert_parted(one, other, 0, 0)
            self.assert_parted(one, other, 9, 9)
            self.assert_parted((HOME,) + one[:4] + (RIGHT,), (HOME,) + one[:3] + (RIGHT,) + one[3:4], 1, 0)

    def test_the_tapes_are_played_once(self):
        self.assert_parted((A,), (A, A), 0, 0)
        self.assert_parted((RIGHT,), (RIGHT, RIGHT), 0, 0)

    def test_the_function_is_defined_in_its_file(self):
        self.assertEqual(alike.__module__, "keytape.alike")

    def test_asked_again_the_same_is_told(self):
        for one, other, left, right in APART:
            self.assertEqual(alike(one, other, left, right), alike(one, other, left, right))


class Refused(AlikeCase):
    def assert_bad_keys(self, at, one, other, left, right):
        self.assertEqual(self.assert_error(BadKeys, alike, one, other, left, right).at, at)

    def test_keys_that_no_plain_tape_has(self):
        for key in NO_KEYS + [key for key in EVERY_KEY if key not in (put("a"), put(" "), put("~")) + PLAIN]:
            for at in range(6):
                with self.subTest(key=key, at=at):
                    keys = (A, RUB, LEFT, RIGHT, HOME, END)
                    keys = keys[:at] + (key,) + keys[at + 1:]
                    self.assert_bad_keys(at, keys, (), 0, 0)
                    self.assert_bad_keys(at, (), keys, 0, 0)
                    self.assert_bad_keys(at, keys[:at + 1], keys, 9, 9)

    def test_every_plain_key_belongs(self):
        for key in PLAIN + (put(" "), put("~"), put("5")):
            for at in range(6):
                keys = (A,) * at + (key,) + (A,) * (5 - at)
                self.assertIsNone(alike(keys, keys, 0, 9))

    def test_the_first_key_that_is_none_is_told(self):
        self.assert_bad_keys(1, (A, UP, (), DOWN), (), 0, 0)
        self.assert_bad_keys(2, (), (A, A, BREAK, TAKE, LAY), 0, 0)

    def test_a_seventh_key(self):
        for key in (A, RUB, HOME, UP, ("put",)):
            for more in (0, 1, 24, 60):
                keys = (A,) * 6 + (key,) + (A,) * more
                self.assert_bad_keys(6, keys, (), 0, 0)
                self.assert_bad_keys(6, (), keys, 0, 0)
        self.assert_bad_keys(5, (A,) * 5 + (UP, A), (), 0, 0)
        self.assert_bad_keys(0, (), (find("a"),) + (A,) * 6, 0, 0)
        self.assert_bad_keys(6, (A,) * 7 + (play("a", 1),), (), 0, 0)

    def test_the_keys_of_the_first_tape_ahead_of_the_second_s(self):
        self.assert_bad_keys(3, (A, A, A, UP), (UP,), 0, 0)
        self.assert_bad_keys(6, (A,) * 7, (till("a"),), 0, 0)
        self.assert_bad_keys(0, (UP,), (A, UP), 0, 0)

    def test_numbers_from_0_to_9(self):
        for number in NO_NUMBERS:
            for other in (0, 9) + NO_NUMBERS:
                with self.subTest(number=number, other=other):
                    self.assert_error(BadNumbers, alike, (), (), number, other)
                    self.assert_error(BadNumbers, alike, (A,), (B,), other, number)
        self.assertIsNone(alike((), (), 0, 9))
        self.assertIsNone(alike((), (), 9, 0))

    def test_the_keys_ahead_of_the_numbers(self):
        for number in NO_NUMBERS:
            self.assert_bad_keys(1, (A, UP), (), number, number)
            self.assert_bad_keys(2, (A, A), (A, A, UP), number, 0)
            self.assert_bad_keys(6, (), (A,) * 7, 0, number)


if __name__ == "__main__":
    unittest.main()
