"""The fewest moves of each of the nine kinds, by one door."""

from turnedrows.blocks import block_script, least_blocks
from turnedrows.closed import closed_turn_script, least_closed_turns
from turnedrows.errors import OutOfRange
from turnedrows.flips import flip_script, least_flips
from turnedrows.nexts import least_nexts, next_script
from turnedrows.recuts import least_recuts, recut_script
from turnedrows.singles import least_singles, single_script
from turnedrows.swaps import least_swaps, swap_script
from turnedrows.takes import least_takes, take_script
from turnedrows.turns import least_turns, turn_script


def functions_of(kind):
    """The functions that tell the least number of moves of a kind and a least script. OutOfRange for another kind."""
    pairs = {
        "swap": (least_swaps, swap_script), "next": (least_nexts, next_script), "take": (least_takes, take_script),
        "blocks": (least_blocks, block_script), "flip": (least_flips, flip_script), "turn": (least_turns, turn_script),
        "closed": (least_closed_turns, closed_turn_script), "recut": (least_recuts, recut_script),
        "single": (least_singles, single_script),
    }
    if kind not in pairs:
        raise OutOfRange("this is none of the nine kinds of moves")
    return pairs[kind]


def least(kind, first, second):
    """The least number of moves of a kind that lead the first row or body to the second one."""
    count, _ = functions_of(kind)
    return count(first, second)


def script(kind, first, second):
    """A script of the least number of moves of a kind that leads the first row or body to the second one."""
    _, find = functions_of(kind)
    return find(first, second)
