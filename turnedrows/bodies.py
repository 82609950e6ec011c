"""Bodies of strands, their ends and joints, and their normal form (points 3.1 to 3.3)."""

from turnedrows.errors import InvalidBody
from turnedrows.rows import MOST_PIECES, sorted_row


def side_across(end):
    """The other end of the piece of an end."""
    return end + 1 if end % 2 == 1 else end - 1


def entered_by(number):
    """The end by which a strand enters the piece that a number tells."""
    return 2 * number - 1 if number > 0 else -2 * number


def number_from(end):
    """The number that tells a piece which is entered by an end."""
    return (end + 1) // 2 if end % 2 == 1 else -(end // 2)


def is_strand(strand):
    """True if a tuple is a strand, of whatever pieces."""
    return len(strand) == 2 and strand[0] in ("open", "closed") and len(strand[1]) > 0


def is_body(n, strands):
    """True if the strands are a body of n pieces."""
    if not 0 <= n <= MOST_PIECES or not all([is_strand(strand) for strand in strands]):
        return False
    pieces = [abs(number) for strand in strands for number in strand[1]]
    return tuple(sorted(pieces)) == sorted_row(n)


def joints_of_strand(strand):
    """The list of the pairs of ends that are joined in a strand, as they follow each other."""
    word, pieces = strand
    following = pieces[1:] + pieces[:1] if word == "closed" else pieces[1:]
    return [(side_across(entered_by(x)), entered_by(y)) for x, y in zip(pieces, following)]


def strand_from(partners, start):
    """The strand that is read from the piece on that is entered by the start.

    The partners tell for each end, by its number, the other end of its joint, or 0.
    """
    pieces = [number_from(start)]
    end = partners[side_across(start)]
    while end not in (0, start):
        pieces.append(number_from(end))
        end = partners[side_across(end)]
    return ("open" if end == 0 else "closed", tuple(pieces))


def normal_strands(partners):
    """The normal form of the body with these partners of its ends."""
    found = []
    seen = {}
    ends = range(1, len(partners))
    # Each strand is met first at its least piece, an open one at the lesser one of its two last pieces.
    for start in [end for end in ends if partners[end] == 0] + [end for end in ends if partners[end] != 0]:
        if (start + 1) // 2 not in seen:
            strand = strand_from(partners, start)
            found.append(strand)
            seen.update({abs(number): True for number in strand[1]})
    return tuple(sorted(found, key=lambda strand: abs(strand[1][0])))


class Body:
    """A body of n pieces: open and closed strands."""

    def __init__(self, n, strands):
        if not is_body(n, strands):
            raise InvalidBody("a body has each of the pieces 1 to n once in its strands, with n at most 40")
        partners = [0] * (2 * n + 1)
        for strand in strands:
            for a, b in joints_of_strand(strand):
                partners[a] = b
                partners[b] = a
        self.n = n
        self._partners = tuple(partners)

    def __eq__(self, other):
        return isinstance(other, Body) and self.n == other.n and self._partners == other._partners

    def joints(self):
        """The tuple of the joints in ascending order."""
        return tuple([(end, there) for end, there in enumerate(self._partners) if end < there])

    def loose(self):
        """The tuple of the loose ends in ascending order."""
        return tuple([end for end in range(1, 2 * self.n + 1) if self._partners[end] == 0])

    def partner(self, end):
        """The other end of the joint of an end of the body, or 0 if it is loose."""
        return self._partners[end]

    def strands(self):
        """The normal form of the body."""
        return normal_strands(self._partners)


def body_of(n, joints):
    """The body of n pieces with these joints. InvalidBody if there is none."""
    if not 0 <= n <= MOST_PIECES:
        raise InvalidBody("a body has 0 to 40 pieces")
    partners = [0] * (2 * n + 1)
    for joint in joints:
        if len(joint) != 2 or not 1 <= min(joint) < max(joint) <= 2 * n:
            raise InvalidBody("a joint has two different ends of the body")
        a, b = joint
        if partners[a] != 0 or partners[b] != 0:
            raise InvalidBody("an end is in at most one joint")
        partners[a] = b
        partners[b] = a
    return Body(n, normal_strands(partners))


def check_same_pieces(first, second):
    """InvalidBody if the two bodies differ in their number of pieces."""
    if first.n != second.n:
        raise InvalidBody("the bodies differ in their number of pieces")


def check_all_same_pieces(bodies):
    """InvalidBody if some of the bodies differ in their number of pieces."""
    for body in bodies:
        check_same_pieces(bodies[0], body)
