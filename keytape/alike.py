"""Whether two plain tapes do the same on all rows of a kind."""

from keytape.actions import page_behind
from keytape.errors import BadNumbers
from keytape.keys import check_plain_keys, is_number
from keytape.pages import Page

MOST_ASKED = 9
# The most signs on each side of the place in the rows that are tried. A plain tape reaches six
# signs at most from the place, from the row's begin and from its end, so among twenty there are
# some out of all reach; to have more of these parts no tapes.
MOST_BESIDE = 20
# The two tapes put twelve signs at most. More are left than a row needs.
SIGNS = "abcdefghijklmnopqrstuvwxyzABCDEFGHIJKLMNOPQRSTUVWXYZ0123456789"


def alike(one, other, left, right):
    """Tell a row and a place on which two plain tapes come to something else, or None.

    Asked of are the rows with so many signs at least left and right of the place.
    """
    check_plain_keys(one)
    check_plain_keys(other)
    check_number(left)
    check_number(right)
    signs = signs_not_put(one + other)
    for ahead in range(left, MOST_BESIDE + 1):
        for behind in range(right, MOST_BESIDE + 1):
            row = signs[:ahead + behind]
            if played(one, row, ahead) != played(other, row, ahead):
                return (row, ahead)
    return None


def check_number(number):
    """Refuse what is no number of signs that may be asked for."""
    if not is_number(number, 0, MOST_ASKED):
        raise BadNumbers("no number of signs to ask for")


def signs_not_put(keys):
    """Signs of which none is put by a key, and none stands twice.

    What the keys do does not hang on the signs of a row. So if two tapes differ on a row, they
    differ on one of these signs that is as long: here none passes for another one.
    """
    put = [key[1] for key in keys if key[0] == "put"]
    return "".join(sign for sign in SIGNS if sign not in put)


def played(keys, row, column):
    """The row and the column that keys come to, up to one that doesn't fit."""
    page = Page((row,), 0, column, "")
    for key in keys:
        behind = page_behind(page, key)
        if behind is None:
            break
        page = behind
    return (page.rows, page.column)
