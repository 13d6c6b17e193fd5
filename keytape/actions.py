"""What the keys do that play no tape: each action tells the page behind it, or None if the key doesn't fit."""

from keytape.pages import MOST_ROWS, MOST_SIGNS, Page, line_at, moved, with_lines


def write(page, signs):
    """Put signs at the place."""
    line = line_at(page)
    if len(line) + len(signs) > MOST_SIGNS:
        return None
    written = line[:page.column] + signs + line[page.column:]
    rows = with_lines(page, page.row, 1, (written,))
    return Page(rows, page.row, page.column + len(signs), page.clipped)


def break_row(page):
    """End the row at the place."""
    if len(page.rows) >= MOST_ROWS:
        return None
    line = line_at(page)
    rows = with_lines(page, page.row, 1, (line[:page.column], line[page.column:]))
    return Page(rows, page.row + 1, 0, page.clipped)


def join_row(page):
    """Join the row to the one above."""
    if page.row == 0:
        return None
    above = page.rows[page.row - 1]
    joined = above + line_at(page)
    if len(joined) > MOST_SIGNS:
        return None
    rows = with_lines(page, page.row - 1, 2, (joined,))
    return Page(rows, page.row - 1, len(above), page.clipped)


def rub(page):
    """Take away the sign ahead of the place, or the line end."""
    if page.column == 0:
        return join_row(page)
    line = line_at(page)
    rubbed = line[:page.column - 1] + line[page.column:]
    rows = with_lines(page, page.row, 1, (rubbed,))
    return Page(rows, page.row, page.column - 1, page.clipped)


def go_left(page):
    """Go to the place ahead in the text."""
    if page.column > 0:
        return moved(page, page.row, page.column - 1)
    if page.row == 0:
        return None
    return moved(page, page.row - 1, len(page.rows[page.row - 1]))


def go_right(page):
    """Go to the place behind in the text."""
    if page.column < len(line_at(page)):
        return moved(page, page.row, page.column + 1)
    if page.row + 1 == len(page.rows):
        return None
    return moved(page, page.row + 1, 0)


def go_to_row(page, row):
    """Go to the same column of a row, or to its end if that is shorter."""
    if row < 0 or row >= len(page.rows):
        return None
    return moved(page, row, min(page.column, len(page.rows[row])))


def go_up(page):
    """Go to the row above."""
    return go_to_row(page, page.row - 1)


def go_down(page):
    """Go to the row below."""
    return go_to_row(page, page.row + 1)


def go_home(page):
    """Go to the row's begin."""
    return moved(page, page.row, 0)


def go_end(page):
    """Go to the row's end."""
    return moved(page, page.row, len(line_at(page)))


def find_word(page, word):
    """Go to the next place behind this one at which the word stands."""
    # Where the place is already the word may stand; only what is behind it counts.
    start = page.column + 1
    for row in range(page.row, len(page.rows)):
        column = page.rows[row].find(word, start)
        if column >= 0:
            return moved(page, row, column)
        start = 0
    return None


def take(page):
    """Take the letters from the place on out of the text, as the clip."""
    line = line_at(page)
    end = page.column
    while end < len(line) and "a" <= line[end] <= "z":
        end += 1
    if end == page.column:
        return None
    rows = with_lines(page, page.row, 1, (line[:page.column] + line[end:],))
    return Page(rows, page.row, page.column, line[page.column:end])


def lay(page):
    """Put the clip at the place."""
    if page.clipped == "":
        return None
    return write(page, page.clipped)


# The keys that are one word.
ACTIONS = {
    "break": break_row,
    "rub": rub,
    "left": go_left,
    "right": go_right,
    "up": go_up,
    "down": go_down,
    "home": go_home,
    "end": go_end,
    "take": take,
    "lay": lay,
}


def page_behind(page, key):
    """The page behind a key that plays no tape, or None if the key doesn't fit."""
    if key[0] == "put":
        return write(page, key[1])
    if key[0] == "find":
        return find_word(page, key[1])
    action = ACTIONS[key[0]]
    return action(page)
