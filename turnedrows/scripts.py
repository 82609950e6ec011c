"""The written forms of scripts and trees (point 6.3)."""

from turnedrows.errors import InvalidText
from turnedrows.families import is_tree
from turnedrows.text import DIGITS, number_of

# How many numbers follow the word of a move, for the moves of rows and bodies alike.
NUMBERS = {"swap": 2, "next": 1, "take": 2, "flip": 2, "blocks": 4, "turn": 2, "recut": 4, "cut": 2, "join": 2}


def write_script(moves):
    """The written form of a script."""
    return "; ".join([" ".join([str(part) for part in move]) for move in moves])


def move_of(text):
    """The move whose written form is the text. InvalidText if there is none."""
    parts = text.split(" ")
    word, *numbers = parts
    if word not in NUMBERS or len(numbers) != NUMBERS[word]:
        raise InvalidText("a move is a word of a move and its numbers, with single spaces between them")
    return (word,) + tuple([number_of(digits) for digits in numbers])


def read_script(text):
    """The script whose written form is the text. InvalidText if there is none."""
    if text == "":
        return ()
    return tuple([move_of(part) for part in text.split("; ")])


def write_tree(tree):
    """The written form of a tree."""
    # An index alone is written, too: it is a subtree.
    if not isinstance(tree, tuple):
        return str(tree)
    left, right = tree
    return f"({write_tree(left)} {write_tree(right)})"


def read_tree(text, k):
    """The tree over k bodies whose written form is the text. InvalidText if there is none."""
    found = []
    for character in text:
        if character in DIGITS:
            found.append(int(character))
        elif character == ")":
            found = found[:-2] + [tuple(found[-2:])]
    # All else that stands in the text is looked at when it is compared; a tree is not too deep to be written for this.
    if len(found) != 1 or not is_tree(found[0], k) or write_tree(found[0]) != text:
        raise InvalidText("the text is no written form of a tree over k bodies")
    return found[0]
