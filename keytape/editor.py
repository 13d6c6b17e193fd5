"""The editor: a text, a place in it and a clip, that keys change, and tapes of keys."""

from keytape.errors import NotTaping, Taping
from keytape.keys import MOST_KEYS, NAMES, check_key, check_keys, check_name
from keytape.pages import Page, first_page
from keytape.player import Player


class Editor:
    """An editor of one text, with the tapes `a` to `h`."""

    def __init__(self, text):
        self.page = first_page(text)
        self.tapes = {name: () for name in NAMES}
        # The name of the tape that is recorded, and the keys that were pressed since.
        self.recorded = None
        self.pressed = []
        # A unit is the page ahead of a key and the one behind it.
        self.units = []
        self.undone = []

    def text(self):
        """Tell the text."""
        return "\n".join(self.page.rows)

    def place(self):
        """Tell the place, as (row, column)."""
        return (self.page.row, self.page.column)

    def clip(self):
        """Tell the clip."""
        return self.page.clipped

    def press(self, key):
        """Do a key; tell whether it fits."""
        check_key(key)
        player = Player(self.page, self.tapes)
        # A refusal comes out of here; nothing may be changed ahead of it.
        fits = player.do(key, 0)
        if self.recorded is not None:
            self.pressed.append(key)
        if player.page.rows != self.page.rows:
            self.units.append((self.page, player.page))
            self.undone = []
        self.page = player.page
        return fits

    def hand(self, key):
        """Tell the keys that come to the same as this one, typed by hand one by one."""
        check_key(key)
        player = Player(self.page, self.tapes)
        player.do(key, 0)
        return player.typed

    def tape(self, name, keys):
        """Make a tape be these keys."""
        check_name(name)
        check_keys(keys)
        self.tapes[name] = tuple(keys)

    def tape_of(self, name):
        """Tell the keys of a tape."""
        check_name(name)
        return self.tapes[name]

    def record(self, name):
        """Begin to tape the keys that are pressed."""
        check_name(name)
        if self.recorded is not None:
            raise Taping("a tape is recorded already")
        self.recorded = name
        self.pressed = []

    def stop(self):
        """End the taping; tell how many keys were pressed since it began."""
        if self.recorded is None:
            raise NotTaping("no tape is recorded")
        self.tapes[self.recorded] = tuple(self.pressed[-MOST_KEYS:])
        self.recorded = None
        return len(self.pressed)

    def back(self):
        """Take the last unit back; tell whether there was one."""
        if self.units == []:
            return False
        unit = self.units.pop()
        self.undone.append(unit)
        self.go_to(unit[0])
        return True

    def forth(self):
        """Do the unit again that was taken back last; tell whether there was one."""
        if self.undone == []:
            return False
        unit = self.undone.pop()
        self.units.append(unit)
        self.go_to(unit[1])
        return True

    def go_to(self, page):
        """Show the text and the place of another page. The clip is none of a unit's and stays."""
        self.page = Page(page.rows, page.row, page.column, self.page.clipped)
