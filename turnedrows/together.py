"""The stretches of pieces that stand side by side in two rows (point 2.8)."""

from turnedrows.signed import relative_signed, unsigned


def common_stretches(first, second):
    """The pairs (i, j) of the first and the last place, in the first row, of each common stretch, in ascending order.

    A plain row is a signed row without a minus, so both kinds are compared alike.
    """
    places = unsigned(relative_signed(first, second))
    found = []
    for i in range(len(places)):
        least = greatest = places[i]
        for j in range(i + 1, len(places)):
            least = min(least, places[j])
            greatest = max(greatest, places[j])
            if greatest - least == j - i:
                found.append((i, j))
    return tuple(found)
