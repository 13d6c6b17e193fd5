"""Texts of tapes: tapes are written as rows of words, and read from them."""

from keytape.errors import BadNames, BadTape
from keytape.keys import MOST_KEYS, MOST_TIMES, NAMES, check_keys, is_key

# How many words a key has, if more than one.
WORDS = {"put": 2, "find": 2, "play": 3, "till": 2}
# The keys whose second word is made of any signs.
WITH_SIGNS = ("put", "find")


def written(tapes):
    """Tell tapes, a list of (name, tape), as a text."""
    check_names(tapes)
    check_tapes(tapes)
    return "\n".join(row_of(name, keys) for name, keys in tapes)


def read(text):
    """Tell the tapes of a text, as a list of (name, tape)."""
    tapes = []
    if text == "":
        return tapes
    above = ""
    for line, row in enumerate(text.split("\n")):
        words = row.split(" ")
        keys = keys_of(words[1:])
        if keys is None or not rises(words[0], above):
            raise BadTape(line)
        tapes.append((words[0], keys))
        above = words[0]
    return tapes


def rises(name, above):
    """Whether this is a name of a tape, and behind the one above; any is behind the empty text."""
    return name in NAMES and name > above


def check_names(tapes):
    """Refuse tapes whose names don't rise."""
    above = ""
    for name, _ in tapes:
        if not rises(name, above):
            raise BadNames("names that do not rise")
        above = name


def check_tapes(tapes):
    """Refuse the first tape that is none, or empty."""
    for _, keys in tapes:
        check_keys(keys)
        if len(keys) == 0:
            raise BadNames("a name of an empty tape")


def row_of(name, keys):
    """The row for a tape."""
    words = [name]
    for key in keys:
        words.extend(words_of(key))
    return " ".join(words)


def words_of(key):
    """The words for a key."""
    if key[0] in WITH_SIGNS:
        return [key[0], word_of(key[1])]
    return [str(part) for part in key]


def word_of(signs):
    """The word for signs."""
    return signs.replace("~", "~~").replace(" ", "~_")


def keys_of(words):
    """The keys that words stand for, or None if that is no tape, or an empty one."""
    keys = []
    at = 0
    while at < len(words):
        many = WORDS.get(words[at], 1)
        key = key_of(words[at:at + many])
        if not is_key(key):
            return None
        keys.append(key)
        at += many
    if len(keys) == 0 or len(keys) > MOST_KEYS:
        return None
    return tuple(keys)


def key_of(words):
    """The key that words stand for. If they stand for none, what is told is no key."""
    if len(words) == 2 and words[0] in WITH_SIGNS:
        return (words[0], signs_of(words[1]))
    if len(words) == 3:
        return (words[0], words[1], number_of(words[2]))
    return tuple(words)


def signs_of(word):
    """The signs that a word stands for, or None if a `~` in it stands for nothing."""
    # Split from its begin on, a word falls apart just where `~~` is meant.
    parts = [part.replace("~_", " ") for part in word.split("~~")]
    if "~" in "".join(parts):
        return None
    return "~".join(parts)


def number_of(word):
    """The number that a word stands for, or None if no tape is played so many times."""
    # An int(word) would take what is never written, such as "+3" and "03".
    for number in range(1, MOST_TIMES + 1):
        if word == str(number):
            return number
    return None
