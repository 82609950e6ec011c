"""The cost of a body for several bodies, and the body in their middle (point 4.1)."""

from turnedrows.bodies import body_of, check_all_same_pieces
from turnedrows.singles import least_singles


def cost(body, bodies):
    """The sum of the least numbers of single moves from the body to each of the bodies."""
    return sum([least_singles(body, other) for other in bodies])


def middle(bodies):
    """The body with the joints that more than half of the bodies have."""
    check_all_same_pieces(bodies)
    counts = {}
    for body in bodies:
        for joint in body.joints():
            counts[joint] = counts.get(joint, 0) + 1
    return body_of(bodies[0].n, [joint for joint in counts if 2 * counts[joint] > len(bodies)])
