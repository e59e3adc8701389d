"""Layer 1: yards, the stands of things on them, and the moves that things make."""

from slideyards.basics import are_unlike_numbers, is_count, is_integer, is_row
from slideyards.errors import BadMove, BadNumber, BadRing, BadRow, BadTie


class Yard:
    """A network of places, with ties that things go along and rings that turn."""

    def __init__(self, places, ties, rings):
        if not is_integer(places) or places < 1:
            raise BadNumber("places", places)
        self.places = places
        self.ties = checked_ties(places, ties)
        self.rings = checked_rings(places, rings)

    def __eq__(self, other):
        return (isinstance(other, Yard) and self.places == other.places
                and self.ties == other.ties and self.rings == other.rings)


def checked_ties(places, ties):
    """The ties of a yard of so many places, ascending."""
    if not is_row(ties):
        raise BadRow(ties)
    seen = set()
    for tie in ties:
        if not are_unlike_numbers(places, tie) or len(tie) != 2 or tuple(tie) in seen:
            raise BadTie(tie)
        seen.add(tuple(tie))
    return tuple(sorted(seen))


def checked_rings(places, rings):
    """The rings of a yard of so many places, in their order."""
    if not is_row(rings):
        raise BadRow(rings)
    for index, ring in enumerate(rings):
        if not are_unlike_numbers(places, ring) or len(ring) < 3:
            raise BadRing(index)
    return tuple([tuple(ring) for ring in rings])


def both_ways(pairs):
    """The ascending tuple of all pairs and of all pairs turned about, each once."""
    return tuple(sorted(set([way for a, b in pairs for way in ((a, b), (b, a))])))


def is_stand_row(yard, value):
    """Whether any value may be passed as a stand of the yard: a tuple or a list."""
    if not is_row(value) or len(value) != yard.places:
        return False
    return all([is_count(thing) for thing in value])


def is_stand(yard, value):
    """Whether any value is a stand of the yard."""
    return isinstance(value, tuple) and is_stand_row(yard, value)


def filled(stand):
    """The ascending tuple of the places with a thing."""
    return tuple([place for place, thing in enumerate(stand) if thing != 0])


def things_of(stand):
    """The ascending tuple of all things, as often as they stand there."""
    return tuple(sorted([thing for thing in stand if thing != 0]))


def is_named(stand):
    """Whether no thing comes twice."""
    things = things_of(stand)
    return len(set(things)) == len(things)


def is_filled_row(yard, value):
    """Whether any value may be passed as a filled row of the yard: a tuple or a list."""
    return are_unlike_numbers(yard.places, value) and sorted(value) == list(value)


def is_move(yard, value):
    """Whether any value is a move of the yard, one that can be made or not."""
    if not isinstance(value, tuple) or len(value) < 2 or not isinstance(value[0], str):
        return False
    # A bool is equal to a number of a tie, so the numbers are looked at themselves.
    if not all([is_integer(number) for number in value[1:]]):
        return False
    if value[0] == "slide":
        return value[1:] in yard.ties
    return value[0] == "turn" and len(value) == 2 and 0 <= value[1] < len(yard.rings)


def moves_at(yard, row):
    """The ascending tuple of all moves that can be made at a filled row."""
    if not is_filled_row(yard, row):
        raise BadRow(row)
    slides = [("slide", a, b) for a, b in yard.ties if a in row and b not in row]
    turns = [("turn", number) for number in range(len(yard.rings))]
    return tuple(slides + turns)


def can_be_made(stand, move):
    """Whether a move of the yard can be made at a stand."""
    return move[0] == "turn" or (stand[move[1]] != 0 and stand[move[2]] == 0)


def behind_move(yard, stand, move):
    """The list of what stands on each place behind a move that can be made."""
    behind = list(stand)
    if move[0] == "slide":
        behind[move[1]] = 0
        behind[move[2]] = stand[move[1]]
        return behind
    ring = yard.rings[move[1]]
    for index, place in enumerate(ring):
        behind[place] = stand[ring[index - 1]]
    return behind


def behind_all(yard, stand, moves):
    """The stand behind a row of moves."""
    now = stand
    for index, move in enumerate(moves):
        if not is_move(yard, move) or not can_be_made(now, move):
            raise BadMove(index)
        now = behind_move(yard, now, move)
    return tuple(now)


def played(yard, stand, moves):
    """The stand behind a row of moves that are made one after the other."""
    if not is_stand_row(yard, stand):
        raise BadRow(stand)
    return behind_all(yard, stand, moves)


def led(yard, row, moves):
    """The filled row behind a row of moves, and where what stood on each place of row stands then."""
    if not is_filled_row(yard, row):
        raise BadRow(row)
    # Moves do the same with all things, so unlike ones show where each one goes.
    numbered = [0] * yard.places
    for number, place in enumerate(row, start=1):
        numbered[place] = number
    behind = behind_all(yard, numbered, moves)
    return filled(behind), tuple([behind.index(number) for number in range(1, len(row) + 1)])


def taken_back(yard, moves):
    """The row of moves that leads back again; None if a slide has no tie back."""
    for index, move in enumerate(moves):
        if not is_move(yard, move):
            raise BadMove(index)
    back = []
    for move in reversed(moves):
        if move[0] == "turn":
            back.extend([move] * (len(yard.rings[move[1]]) - 1))
        elif (move[2], move[1]) in yard.ties:
            back.append(("slide", move[2], move[1]))
        else:
            return None
    return tuple(back)
