"""The player: does a key with all that it plays."""

from keytape.actions import page_behind
from keytape.errors import TooLong

MOST_THINGS = 400
MOST_AROUND = 20


class Player:
    """Does one key from a page on. What comes of it is in `page`, the keys that did it in `typed`.

    Neither the page nor the tapes that it is given are changed; who asked decides what to
    do with the page behind the key. So a key that proves too long leaves nothing behind.
    """

    def __init__(self, page, tapes):
        self.page = page
        self.tapes = tapes
        self.typed = []
        self.things = 0

    def do(self, key, around):
        """Do a key within so many plays and tills; tell whether it fits."""
        self.add_thing()
        if key[0] == "play":
            return self.play(key[1], key[2], around)
        if key[0] == "till":
            return self.play_till(key[1], around)
        behind = page_behind(self.page, key)
        if behind is None:
            return False
        self.page = behind
        self.typed.append(key)
        return True

    def play(self, name, many, around):
        """Play a tape so many times; tell whether all its keys fit."""
        if around >= MOST_AROUND:
            return False
        for _ in range(many):
            if not self.play_once(name, around + 1):
                return False
        return True

    def play_till(self, name, around):
        """Play a tape until a key of it doesn't fit; tell whether this could begin."""
        if around >= MOST_AROUND:
            return False
        # This ends, if only because too many things are done.
        while self.play_once(name, around + 1):
            pass
        return True

    def play_once(self, name, around):
        """Do the keys of a tape up to one that doesn't fit; tell whether all fit."""
        self.add_thing()
        for key in self.tapes[name]:
            if not self.do(key, around):
                return False
        return True

    def add_thing(self):
        """Count one thing more, ahead of doing it."""
        self.things += 1
        if self.things > MOST_THINGS:
            raise TooLong("too many things would be done")
