"""What several tests need."""

import unittest

from keytape.editor import Editor
from keytape.errors import TapeError

NAMES = "abcdefgh"

HOME = ("home",)
END = ("end",)
LEFT = ("left",)
RIGHT = ("right",)
UP = ("up",)
DOWN = ("down",)
RUB = ("rub",)
BREAK = ("break",)
TAKE = ("take",)
LAY = ("lay",)


def put(sign):
    return ("put", sign)


def find(word):
    return ("find", word)


def play(name, many=1):
    return ("play", name, many)


def till(name):
    return ("till", name)


def editor_at(text, row=0, column=0):
    """An editor of this text with the place there."""
    editor = Editor(text)
    for _ in range(row):
        assert editor.press(DOWN)
    for _ in range(column):
        assert editor.press(RIGHT)
    assert editor.place() == (row, column)
    return editor


def shown(editor):
    return (editor.text(), editor.place(), editor.clip())


def told(editor):
    """All that an editor tells without being changed."""
    return (shown(editor), [editor.tape_of(name) for name in NAMES])


EVERY_KEY = (
    put("a"), put(" "), put("~"), BREAK, RUB, LEFT, RIGHT, UP, DOWN, HOME, END, find("a"), find("a b~"), TAKE, LAY,
    play("a", 1), play("h", 9), till("a"), till("h"),
)

# What is no key: tuples of texts and numbers, and (at the end) with True, which is no number.
NO_KEYS = [
    (),
    ("",),
    ("push",),
    ("PUT", "a"),
    (5,),
    (1, 2),
    ("put",),
    ("put", ""),
    ("put", "ab"),
    ("put", "\n"),
    ("put", "\t"),
    ("put", "\x7f"),
    ("put", "\x1f"),
    ("put", "\u00e9"),
    ("put", 5),
    ("put", "a", "b"),
    ("break", "a"),
    ("rub", 1),
    ("left", 1),
    ("right", ""),
    ("up", "a"),
    ("down", 2),
    ("home", "a"),
    ("end", 1),
    ("take", "a"),
    ("lay", "a"),
    ("find",),
    ("find", ""),
    ("find", "abcde"),
    ("find", "a\nb"),
    ("find", "a\u00e9"),
    ("find", 12),
    ("find", "ab", 1),
    ("play",),
    ("play", "a"),
    ("play", "a", 0),
    ("play", "a", 10),
    ("play", "a", -1),
    ("play", "a", "1"),
    ("play", 1, "a"),
    ("play", "i", 1),
    ("play", "A", 1),
    ("play", "", 1),
    ("play", "ab", 1),
    ("play", "a", 1, 1),
    ("till",),
    ("till", ""),
    ("till", "i"),
    ("till", "ab"),
    ("till", 0),
    ("till", "a", 1),
    ("play", "a", True),
]

NO_NAMES = ["", "i", "z", "A", "ab", "abcdefgh", " a", "`", "1"]


class RefusalCase(unittest.TestCase):
    def assert_error(self, error, ask, *handed):
        """Ask, and tell the error with which this is refused; it must be of this very class."""
        with self.assertRaises(error) as caught:
            ask(*handed)
        self.assertIs(type(caught.exception), error)
        self.assertIsInstance(caught.exception, TapeError)
        self.assertIsInstance(caught.exception, ValueError)
        return caught.exception
