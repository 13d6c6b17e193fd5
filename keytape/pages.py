"""Pages: what an editor shows at one moment."""

from keytape.errors import BadText

MOST_ROWS = 12
MOST_SIGNS = 60


class Page:
    """The rows of a text, a place in it, and what is clipped.

    A page is never changed once it is made, so one that is kept (to be taken back to, or
    because what comes next may be refused) stays as it was.
    """

    def __init__(self, rows, row, column, clipped):
        self.rows = rows
        self.row = row
        self.column = column
        self.clipped = clipped


def are_signs(text):
    """Whether all of a text is signs, from the blank to the tilde."""
    return all(" " <= sign <= "~" for sign in text)


def first_page(text):
    """The page on which an editor begins with a text."""
    rows = tuple(text.split("\n"))
    if len(rows) > MOST_ROWS:
        raise BadText("too many rows")
    for row in rows:
        if len(row) > MOST_SIGNS:
            raise BadText("too many signs in a row")
        if not are_signs(row):
            raise BadText("a row with what is no sign")
    return Page(rows, 0, 0, "")


def line_at(page):
    """The row in which the place is."""
    return page.rows[page.row]


def moved(page, row, column):
    """The page with the place elsewhere."""
    return Page(page.rows, row, column, page.clipped)


def with_lines(page, first, many, lines):
    """The rows of the page, but other lines for so many of them, from the first on."""
    return page.rows[:first] + lines + page.rows[first + many:]
