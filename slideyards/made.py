"""Layer 11: puzzles made: stands with just one least row of moves to a goal."""

from slideyards.basics import is_count
from slideyards.errors import BadNumber
from slideyards.least import counts_in, moves_in, searched
from slideyards.yards import Yard


def turned_about(yard):
    """The yard with each tie turned about, and each ring in the other direction."""
    ties = [(b, a) for a, b in yard.ties]
    return Yard(yard.places, ties, [ring[:1] + ring[:0:-1] for ring in yard.rings])


def searched_to(yard, goal, most):
    """The layers of all stands by their distance to a goal, as searched tells them."""
    return searched(turned_about(yard), goal, most)


def clear_rows(found):
    """For each layer but the last one the ascending tuple of its clear stands."""
    counts = counts_in(found)
    return tuple([tuple(sorted([stand for stand in layer if counts[stand] == 1]))
                  for layer in found[:-1]])


def clear_stands(yard, goal, most):
    """For each distance to a goal the clear stands at it."""
    return clear_rows(searched_to(yard, goal, most))


def move_back(move):
    """The move of a yard that makes of t s, if a move of the yard turned about makes t of s."""
    return ("slide", move[2], move[1]) if move[0] == "slide" else move


def clear_row(yard, goal, stand, most):
    """The row of moves of a clear stand to a goal; None if it is not clear."""
    found = searched_to(yard, goal, most)
    start = tuple(stand)
    for distance, row in enumerate(clear_rows(found)):
        if start in row:
            moves = moves_in(found[:distance + 1], start)
            return tuple([move_back(move) for move in reversed(moves)])
    return None


def made_stand(yard, goal, far, number, most):
    """The clear stand of this number at a distance to a goal."""
    rows = clear_stands(yard, goal, most)
    if not is_count(far) or far >= len(rows) or not rows[far]:
        raise BadNumber("moves", far)
    if not is_count(number) or number >= len(rows[far]):
        raise BadNumber("number", number)
    return rows[far][number]


def hardest(yard, goal, most):
    """The greatest distance at which there is a clear stand, and the clear stands at it."""
    rows = [row for row in clear_stands(yard, goal, most) if row]
    # Clear stands lead by clear ones alone, so no distance ahead of the greatest has none.
    return len(rows) - 1, rows[-1]
