"""Which tuples are keys, which texts name a tape, and what a tape may be made of."""

from keytape.actions import ACTIONS
from keytape.errors import BadKey, BadKeys, BadName
from keytape.pages import are_signs

NAMES = ("a", "b", "c", "d", "e", "f", "g", "h")
MOST_KEYS = 30
MOST_PLAIN_KEYS = 6
MOST_TIMES = 9
LONGEST_WORD = 4
# The keys that a plain tape is made of.
PLAIN = ("put", "rub", "left", "right", "home", "end")


def is_word(word, longest):
    """Whether this is a text of one sign to so many."""
    return isinstance(word, str) and 1 <= len(word) <= longest and are_signs(word)


def is_number(number, least, most):
    """Whether this is a number from the least to the most."""
    # For Python, True and False are numbers too.
    return isinstance(number, int) and not isinstance(number, bool) and least <= number <= most


def is_key(key):
    """Whether this is a key."""
    if not isinstance(key, tuple):
        return False
    match key:
        case ("put", sign):
            return is_word(sign, 1)
        case ("find", word):
            return is_word(word, LONGEST_WORD)
        case ("play", name, many):
            return name in NAMES and is_number(many, 1, MOST_TIMES)
        case ("till", name):
            return name in NAMES
        case (kind,):
            return kind in ACTIONS
        case _:
            return False


def is_plain_key(key):
    """Whether this is a key for a plain tape."""
    return is_key(key) and key[0] in PLAIN


def check_key(key):
    """Refuse what is no key."""
    if not is_key(key):
        raise BadKey("no key")


def check_name(name):
    """Refuse what is no name of a tape."""
    if name not in NAMES:
        raise BadName("no name of a tape")


def check_keys(keys):
    """Refuse what no tape is made of."""
    check_each(keys, MOST_KEYS, is_key)


def check_plain_keys(keys):
    """Refuse what no plain tape is made of."""
    check_each(keys, MOST_PLAIN_KEYS, is_plain_key)


def check_each(keys, most, belongs):
    """Refuse the first of the keys that doesn't belong, or is one more than the most."""
    for at, key in enumerate(keys):
        if at >= most or not belongs(key):
            raise BadKeys(at)
