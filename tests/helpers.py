"""What several tests need. Nothing here uses the program's own moves: the tests compare it with the document."""

import functools
import itertools
import random

HUGE = 10 ** 5000

BAD_ROWS = (
    (0,), (2,), (-1,), (1, 1), (2, 2), (1, 3), (0, 1), (1, 0), (-1, 2), (1, -2), (1, 2, 4), (1, 2, 2), (2, 3, 4),
    (HUGE,), (-HUGE,), (1, HUGE), tuple(range(1, 42)), tuple(range(41, 0, -1)), tuple(range(0, 40)),
    (1,) * 40, tuple(range(1, 40)) + (1,), tuple(range(1, 40)) + (41,), tuple(range(1, 101)),
)

FORTY = tuple(range(1, 41))
NEGATIVE = tuple([-x for x in FORTY])

BAD_SIGNED = (
    (0,), (2,), (-2,), (1, 1), (-1, -1), (1, -1), (-1, 1), (1, 0), (0, -1), (0, 0), (1, 3), (1, -3), (2, 3), (1, -2, 2),
    (1, 2, -4), (HUGE,), (-HUGE,), (1, -HUGE), FORTY + (41,), FORTY + (-41,), NEGATIVE + (-41,),
    FORTY[:39] + (-1,), FORTY[:39] + (-41,), FORTY[:39] + (0,), FORTY + (0,), (1,) * 40, FORTY + NEGATIVE,
)


def plain_rows(n):
    """All plain rows of n pieces, in ascending order."""
    return list(itertools.permutations(range(1, n + 1)))


def some_rows(n, many, seed=1):
    """A few shuffled rows of n pieces, the same ones in each run."""
    chance = random.Random(f"{n} {seed}")
    return [tuple(chance.sample(range(1, n + 1), n)) for _ in range(many)]


def long_pairs():
    """Pairs of rows of many lengths up to 40 pieces, sorted and reversed ones among them."""
    pairs = []
    for n in (0, 1, 2, 3, 7, 8, 13, 20, 31, 39, 40, 40, 40):
        pairs.extend(zip(some_rows(n, 4, 1), some_rows(n, 4, 2)))
        row = tuple(range(1, n + 1))
        pairs.extend([(row, row), (row, row[::-1]), (row[::-1], row), (row[1:] + row[:1], row)])
    return pairs


@functools.lru_cache(maxsize=None)
def plain_moves(kind, n):
    """All moves of a kind of rows of n pieces, by the words of point 1.2."""
    places = range(n)
    if kind == "swap" or kind == "flip":
        return [(kind, i, j) for i in places for j in places if i < j]
    if kind == "next":
        return [(kind, i) for i in places if i + 1 in places]
    if kind == "take":
        return [(kind, i, j) for i in places for j in places if i != j]
    cuts = range(n + 1)
    return [
        (kind, i, j, k, l) for i in cuts for j in cuts for k in cuts for l in cuts if i < j and j <= k and k < l
    ]


@functools.lru_cache(maxsize=None)
def move_set(kind, n):
    """All moves of a kind of rows of n pieces, as a set."""
    return frozenset(plain_moves(kind, n))


def after(row, move):
    """The row after a move of point 1.2, done on a list of its pieces."""
    pieces = list(row)
    word, numbers = move[0], move[1:]
    if word == "swap":
        i, j = numbers
        pieces[i], pieces[j] = row[j], row[i]
    elif word == "next":
        i = numbers[0]
        pieces[i], pieces[i + 1] = row[i + 1], row[i]
    elif word == "take":
        i, j = numbers
        pieces.insert(j, pieces.pop(i))
    elif word == "flip":
        i, j = numbers
        for step in range(j - i + 1):
            pieces[i + step] = row[j - step]
    else:
        i, j, k, l = numbers
        places = [*range(i), *range(k, l), *range(j, k), *range(i, j), *range(l, len(row))]
        pieces = [row[place] for place in places]
    return tuple(pieces)


def after_all(row, moves):
    """The row after several moves."""
    for move in moves:
        row = after(row, move)
    return row


def search(first, moves):
    """From a row on, breadth first: the least number of moves to each row, and the number of least scripts."""
    least = {first: 0}
    ways = {first: 1}
    queue = [first]
    for row in queue:
        for move in moves:
            there = after(row, move)
            if there not in least:
                least[there] = least[row] + 1
                ways[there] = 0
                queue.append(there)
            if least[there] == least[row] + 1:
                ways[there] += ways[row]
    return least, ways


def check_least_of_few(test, kind, least, most=5):
    """The least number for all pairs of rows of few pieces is that of a breadth-first search over the moves."""
    for n in range(most + 1):
        moves = plain_moves(kind, n)
        for first in plain_rows(n):
            found = search(first, moves)[0]
            test.assertEqual(len(found), len(plain_rows(n)))
            for second in found:
                test.assertEqual(least(first, second), found[second], (kind, first, second))
    found = search((1, 2, 3, 4, 5, 6), plain_moves(kind, 6))[0]
    for row in plain_rows(6):
        test.assertEqual(least((1, 2, 3, 4, 5, 6), row), found[row], (kind, row))
        test.assertEqual(least(row, (1, 2, 3, 4, 5, 6)), found[row], (kind, row))


def check_script(test, kind, script, least, first, second):
    """The script is a tuple of the least number of moves of the kind that leads the first row to the second one."""
    moves = script(first, second)
    test.assertIs(type(moves), tuple)
    test.assertEqual(len(moves), least(first, second), (first, second))
    allowed = move_set(kind, len(first)) if len(first) < 12 else None
    for move in moves:
        test.assertIs(type(move), tuple)
        test.assertEqual(move[0], kind)
        if allowed is not None:
            test.assertIn(move, allowed)
        elif kind == "next":
            test.assertTrue(len(move) == 2 and 0 <= move[1] < len(first) - 1, move)
        elif kind == "blocks":
            _, i, j, k, l = move
            test.assertTrue(0 <= i < j <= k < l <= len(first), move)
        else:
            _, i, j = move
            test.assertTrue(0 <= i < len(first) and 0 <= j < len(first) and i != j, move)
            test.assertTrue(kind == "take" or i < j, move)
    test.assertEqual(after_all(first, moves), second)


def check_scripts(test, kind, script, least):
    """Scripts for all pairs of rows of few pieces, and for rows up to 40 pieces."""
    for n in range(6):
        for first in plain_rows(n):
            for second in plain_rows(n):
                check_script(test, kind, script, least, first, second)
    for first, second in long_pairs():
        check_script(test, kind, script, least, first, second)


def signed_rows(n):
    """All signed rows of n pieces."""
    return [
        tuple([sign * x for sign, x in zip(signs, row)])
        for row in plain_rows(n) for signs in itertools.product((1, -1), repeat=n)
    ]


def some_signed(n, many, seed=1):
    """A few shuffled signed rows of n pieces, the same ones in each run."""
    chance = random.Random(f"signs {n} {seed}")
    return [tuple([chance.choice((1, -1)) * x for x in row]) for row in some_rows(n, many, seed)]


def after_turn(row, move):
    """The row after a turn, done on a list of its pieces."""
    _, i, j = move
    pieces = list(row)
    for step in range(j - i + 1):
        pieces[i + step] = -row[j - step]
    return tuple(pieces)


def after_turns(row, moves):
    """The row after several turns."""
    for move in moves:
        row = after_turn(row, move)
    return row


def all_turns(n):
    """All turns of rows of n pieces, by the words of point 2.1."""
    return [("turn", i, j) for i in range(n) for j in range(n) if i <= j]


def search_turns(first):
    """From a signed row on, breadth first: the least number of turns to each row."""
    least = {first: 0}
    queue = [first]
    moves = all_turns(len(first))
    for row in queue:
        for move in moves:
            there = after_turn(row, move)
            if there not in least:
                least[there] = least[row] + 1
                queue.append(there)
    return least


def check_refuses_rows(test, error, function):
    """A function of two plain rows refuses a bad first row, a bad second one, and rows of different lengths."""
    for bad in BAD_ROWS:
        for good in {(), (1,), (2, 1), tuple(range(1, len(bad) + 1))[:40], tuple(range(1, 9))}:
            with test.assertRaises(error):
                function(bad, good)
            with test.assertRaises(error):
                function(good, bad)
        with test.assertRaises(error):
            function(bad, bad)
    for n, m in ((0, 1), (1, 2), (2, 0), (7, 8), (8, 9), (39, 40), (8, 3), (40, 0)):
        with test.assertRaises(error):
            function(tuple(range(1, n + 1)), tuple(range(1, m + 1)))
        with test.assertRaises(error):
            function(tuple(range(1, m + 1)), tuple(range(1, n + 1)))


def check_refuses_signed(test, error, function):
    """A function of two signed rows refuses a bad first row, a bad second one, and rows of different lengths."""
    for bad in BAD_SIGNED:
        for good in {(), (1,), (-2, 1), FORTY[:len(bad)], NEGATIVE[:len(bad)], FORTY, NEGATIVE[:13]}:
            with test.assertRaises(error):
                function(bad, good)
            with test.assertRaises(error):
                function(good, bad)
        with test.assertRaises(error):
            function(bad, bad)
    for n, m in ((0, 1), (1, 2), (2, 4), (7, 8), (12, 13), (13, 14), (39, 40), (0, 40), (5, 40)):
        for first, second in ((FORTY[:n], NEGATIVE[:m]), (NEGATIVE[:m], FORTY[:n]), (FORTY[:m], FORTY[:n])):
            with test.assertRaises(error):
                function(first, second)
