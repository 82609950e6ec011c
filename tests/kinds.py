"""The nine kinds of moves: pairs of rows and bodies to try for each, and words that are no kinds."""

import itertools

from tests import helpers, kin, strands
from turnedrows.errors import InvalidBody, InvalidRow

PLAIN = ("swap", "next", "take", "blocks", "flip")
SIGNED = ("turn", "closed")
OF_BODIES = ("recut", "single")
KINDS = PLAIN + SIGNED + OF_BODIES
OTHER_KINDS = (
    "", "turns", "Swap", "swaps", "cut", "join", "rings", "web", "block", "flips", "open", "next ", "recuts", "signed",
)


def pairs_of(kind):
    """Pairs of rows or bodies to try for a kind, as long as its scripts are told for."""
    if kind == "flip":
        return [pair for n in range(8) for pair in zip(helpers.some_rows(n, 3, 1), helpers.some_rows(n, 3, 2))]
    if kind in PLAIN:
        return [pair for n in range(4) for pair in itertools.product(helpers.plain_rows(n), repeat=2)][::3] + [
            pair for n in (8, 20, 40) for pair in zip(helpers.some_rows(n, 4, 1), helpers.some_rows(n, 4, 2))
        ]
    if kind in SIGNED:
        most = 12 if kind == "turn" else 13
        return [
            pair for n in (0, 1, 2, 3, 5, 8, most)
            for pair in zip(helpers.some_signed(n, 3, 1), helpers.some_signed(n, 3, 2))
        ]
    return [pair for n in range(3) for pair in itertools.product(kin.all_bodies(n), repeat=2)] + strands.long_pairs()


def check_refuses_kind(test, kind, function):
    """A function of a kind and two rows or bodies refuses those that are bad or differ in their number of pieces."""
    def ask(first, second):
        function(kind, first, second)
    if kind in PLAIN:
        helpers.check_refuses_rows(test, InvalidRow, ask)
    elif kind in SIGNED:
        helpers.check_refuses_signed(test, InvalidRow, ask)
    else:
        strands.check_refuses_pieces(test, InvalidBody, ask)
