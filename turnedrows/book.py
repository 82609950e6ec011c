"""A book of bodies under names, in which acts can be taken back (point 7.1)."""

from turnedrows.cuts import do_cut
from turnedrows.errors import InvalidBody, InvalidName, OutOfRange, TooMany, UnknownName
from turnedrows.fewest import least
from turnedrows.rows import MOST_PIECES

MOST_NAMES = 30
LONGEST_NAME = 12
NAME_CHARACTERS = "0123456789abcdefghijklmnopqrstuvwxyz"


def is_name(name):
    """True if a string is a name of a body."""
    return 1 <= len(name) <= LONGEST_NAME and all([character in NAME_CHARACTERS for character in name])


def check_body_kind(kind):
    """OutOfRange if this is no kind of moves of bodies."""
    if kind not in ("recut", "single"):
        raise OutOfRange("bodies are compared by recut and single")


class Book:
    """A book of bodies of n pieces. Each act that is done is kept as the name, its body before and its body after."""

    def __init__(self, n):
        if not 0 <= n <= MOST_PIECES:
            raise OutOfRange("a book has bodies of 0 to 40 pieces")
        self.n = n
        self._bodies = {}
        self._done = []
        self._undone = []

    def _keep(self, name, body):
        """Keeps a body under a name, or none if it is None."""
        if body is None:
            del self._bodies[name]
        else:
            self._bodies[name] = body

    def _act(self, name, body):
        """Does an act other than undo and redo: gives a name another body, or none."""
        self._done.append((name, self._bodies.get(name), body))
        self._undone = []
        self._keep(name, body)

    def put(self, name, body):
        """Puts a body under a name. InvalidName, InvalidBody, TooMany."""
        if not is_name(name):
            raise InvalidName("a name has 1 to 12 characters from a to z and 0 to 9")
        if body.n != self.n:
            raise InvalidBody("the body has another number of pieces than those of the book")
        if name not in self._bodies and len(self._bodies) >= MOST_NAMES:
            raise TooMany("a book keeps at most 30 names")
        self._act(name, body)

    def drop(self, name):
        """Drops a name. UnknownName."""
        self.body(name)
        self._act(name, None)

    def move(self, name, move):
        """Does a move of the body of a name. UnknownName, InvalidMove."""
        self._act(name, do_cut(self.body(name), move))

    def undo(self):
        """Takes back the last act that is done. False if there is none."""
        if not self._done:
            return False
        name, before, after = self._done.pop()
        self._undone.append((name, before, after))
        self._keep(name, before)
        return True

    def redo(self):
        """Does again the act that was taken back last. False if there is none."""
        if not self._undone:
            return False
        name, before, after = self._undone.pop()
        self._done.append((name, before, after))
        self._keep(name, after)
        return True

    def forget(self):
        """Lets no act that was done so far be taken back or done again."""
        self._done = []
        self._undone = []

    def copy(self):
        """Another book with the same bodies, in which nothing can be taken back or done again."""
        other = Book(self.n)
        for name in self.names():
            other.put(name, self.body(name))
        other.forget()
        return other

    def names(self):
        """The tuple of the names, in ascending order."""
        return tuple(sorted(self._bodies))

    def body(self, name):
        """The body of a name. UnknownName."""
        if name not in self._bodies:
            raise UnknownName("no body of the book has this name")
        return self._bodies[name]

    def table(self, kind):
        """The least numbers of moves of a kind from each body to each body, in the order of the names. OutOfRange."""
        check_body_kind(kind)
        bodies = [self.body(name) for name in self.names()]
        return tuple([tuple([least(kind, one, other) for other in bodies]) for one in bodies])

    def nearest(self, name, kind):
        """The first name of those with the body nearest to that of a name, None if there is no other. UnknownName."""
        check_body_kind(kind)
        here = self.body(name)
        found = [(least(kind, here, self.body(other)), other) for other in self.names() if other != name]
        return min(found)[1] if found else None
