"""The fewest swaps that lead one plain row to another one (points 1.5 and 1.6)."""

from math import factorial

from turnedrows.rows import relative_row, rings


def least_swaps(first, second):
    """The least number of swaps that lead the first row to the second one."""
    row = relative_row(first, second)
    return len(row) - len(rings(row))


def swap_script(first, second):
    """A script of the least number of swaps that leads the first row to the second one."""
    script = []
    for ring in rings(relative_row(first, second)):
        # Each swap puts the piece at the ring's first place where it belongs, and brings the next one there.
        for place in ring[1:]:
            script.append(("swap", ring[0], place))
    return tuple(script)


def trees_over(k):
    """k ** (k - 2), the number of the trees over k places, for k at least 1."""
    number = 1
    for _ in range(k - 2):
        number = number * k
    return number


def ways_by_sizes(sizes):
    """The number of least ways to part rings of these sizes, in which each step makes two rings out of one."""
    ways = factorial(sum([size - 1 for size in sizes]))
    for size in sizes:
        # No remainder is lost: d! can be divided by the factorials of the rings' steps all together.
        ways = ways // factorial(size - 1) * trees_over(size)
    return ways


def swap_ways(first, second):
    """The number of least scripts of swaps."""
    return ways_by_sizes([len(ring) for ring in rings(relative_row(first, second))])
