"""The written forms of rows and bodies, and what a text says (points 6.1 and 6.2)."""

from turnedrows.bodies import Body
from turnedrows.errors import InvalidBody, InvalidRow, InvalidText
from turnedrows.rows import check_row
from turnedrows.signed import check_signed

DIGITS = "0123456789"
MOST_DIGITS = 300

STRANDS = {"[": "open", "(": "closed"}
CLOSINGS = {"[": "]", "(": ")"}


def written_signed(numbers):
    """Numbers with their signs, and a space between them."""
    return " ".join([f"{number:+d}" for number in numbers])


def written_strand(strand):
    """The numbers of a strand within its brackets."""
    word, pieces = strand
    inner = written_signed(pieces)
    return f"[{inner}]" if word == "open" else f"({inner})"


def write_row(row):
    """The written form of a plain row."""
    return " ".join([str(piece) for piece in check_row(row)])


def write_signed(row):
    """The written form of a signed row."""
    return written_signed(check_signed(row))


def write_body(body):
    """The written form of a body."""
    return " ".join([written_strand(strand) for strand in body.strands()])


def words_of(text):
    """The list of what stands between the spaces and newlines of a text."""
    return [word for word in text.replace("\n", " ").split(" ") if word != ""]


def number_of(digits):
    """The number that a string of decimal digits without a leading zero tells. InvalidText if it is none."""
    if not 1 <= len(digits) <= MOST_DIGITS or not all([character in DIGITS for character in digits]):
        raise InvalidText("a number has decimal digits alone, at most 300")
    if digits[0] == "0" and digits != "0":
        raise InvalidText("a number has no leading zero")
    return int(digits)


def signed_number_of(word):
    """The number that decimal digits tell, with a sign directly before them or without one. InvalidText."""
    if word[0] == "-":
        return -number_of(word[1:])
    return number_of(word[1:] if word[0] == "+" else word)


def read_row(text):
    """The plain row that a text says. InvalidText if it says none."""
    row = tuple([number_of(word) for word in words_of(text)])
    try:
        return check_row(row)
    except InvalidRow:
        raise InvalidText("the numbers of the text are no plain row") from None


def read_signed(text):
    """The signed row that a text says. InvalidText if it says none."""
    row = tuple([signed_number_of(word) for word in words_of(text)])
    try:
        return check_signed(row)
    except InvalidRow:
        raise InvalidText("the numbers of the text are no signed row") from None


def strands_of(words):
    """The tuple of the strands that numbers and brackets tell. InvalidText if they tell none."""
    strands = []
    while words:
        bracket = words[0]
        if bracket not in CLOSINGS or CLOSINGS[bracket] not in words:
            raise InvalidText("each strand stands within two brackets of one kind")
        end = words.index(CLOSINGS[bracket])
        # Another bracket before the end is no number: so it is refused there.
        strands.append((STRANDS[bracket], tuple([signed_number_of(word) for word in words[1:end]])))
        words = words[end + 1:]
    return tuple(strands)


def read_body(text):
    """The body that a text says, with as many pieces as the text has. InvalidText if it says none."""
    for bracket in "[]()":
        text = text.replace(bracket, f" {bracket} ")
    strands = strands_of(words_of(text))
    try:
        return Body(sum([len(pieces) for _, pieces in strands]), strands)
    except InvalidBody:
        raise InvalidText("the strands of the text are no body") from None
