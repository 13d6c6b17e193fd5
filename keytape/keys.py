"""Which tuples are keys, which texts name a tape, and what a tape may be made of."""

from keytape.actions import ACTIONS
from keytape.errors import BadKey, BadKeys, BadName
from keytape.pages import are_signs

NAMES = ("a", "b", "c", "d", "e", "f", "g", "h")
MOST_KEYS = 30
MOST_TIMES = 9
LONGEST_WORD = 4


def is_word(word, longest):
    """Whether this is a text of one sign to so many."""
    return isinstance(word, str) and 1 <= len(word) <= longest and are_signs(word)


def is_times(many):
    """Whether a tape may be played so many times."""
    # For Python, True and False are numbers too.
    return isinstance(many, int) and not isinstance(many, bool) and 1 <= many <= MOST_TIMES


def is_key(key):
    """Whether this is a key."""
    if not isinstance(key, tuple):
        return False
    match key:
        case ("put", sign):
            return is_word(sign, 1)
        case ("find", word):
            return is_word(word, LONGEST_WORD)
        case ("play", name, many):
            return name in NAMES and is_times(many)
        case ("till", name):
            return name in NAMES
        case (kind,):
            return kind in ACTIONS
        case _:
            return False


def check_key(key):
    """Refuse what is no key."""
    if not is_key(key):
        raise BadKey("no key")


def check_name(name):
    """Refuse what is no name of a tape."""
    if name not in NAMES:
        raise BadName("no name of a tape")


def check_keys(keys):
    """Refuse what no tape is made of."""
    for at, key in enumerate(keys):
        if at >= MOST_KEYS or not is_key(key):
            raise BadKeys(at)
