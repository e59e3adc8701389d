"""Layer 12: floors: yards with a stand, drawn as lines of signs."""

from slideyards.basics import frozen, is_count, is_row
from slideyards.errors import BadLine, BadRow
from slideyards.yards import Yard, behind_move, both_ways, played

WALL = "#"
# The sign of each thing by its number, 0 being an empty place.
SIGNS = ".123456789abcdefghijklmnopqrstuvwxyz"


class Floor:
    """The spots of a yard's places, the pairs of their lines and columns, and a stand."""

    def __init__(self, spots, yard, stand):
        self.spots = frozen(spots)
        self.yard = frozen(yard)
        self.stand = frozen(stand)


def drawn(text):
    """The numbers of what stands on all spots of a text that are no walls."""
    found = {}
    for line, signs in enumerate(text.split("\n")):
        for column, sign in enumerate(signs):
            if sign in SIGNS:
                found[(line, column)] = SIGNS.index(sign)
            elif sign != WALL:
                raise BadLine(line + 1, column + 1)
    return found


def pairs_beside(places):
    """The pairs of places on spots that are beside one another, or one below the other."""
    pairs = []
    for line, column in places:
        for spot in ((line, column + 1), (line + 1, column)):
            if spot in places:
                pairs.append((places[(line, column)], places[spot]))
    return pairs


def read_floor(text):
    """The floor that a text draws."""
    if not isinstance(text, str):
        raise BadLine(0, 0)
    found = drawn(text)
    if not found:
        raise BadLine(1, 1)
    places = {spot: number for number, spot in enumerate(found)}
    yard = Yard(len(found), both_ways(pairs_beside(places)), ())
    return Floor(list(found), yard, list(found.values()))


def picture(spots, stand):
    """The lines of signs of a stand on spots; it is not looked at."""
    signs = {(line, column): SIGNS[thing] for (line, column), thing in zip(spots, stand)}
    lines = range(max([line for line, _ in spots], default=-1) + 1)
    columns = range(max([column for _, column in spots], default=-1) + 1)
    rows = [[signs.get((line, column), WALL) for column in columns] for line in lines]
    return "".join(["".join(row) + "\n" for row in rows])


def are_drawable(things):
    """Whether there is a sign for each item of a row."""
    return all([is_count(thing) and thing < len(SIGNS) for thing in things])


def draw(spots, stand):
    """The lines of signs of a stand on spots."""
    if not is_row(stand) or len(stand) != len(spots) or not are_drawable(stand):
        raise BadRow(stand)
    return picture(spots, stand)


def reel(floor, stand, moves):
    """The pictures of a stand and of those behind each move, with an empty line between two."""
    played(floor.yard, stand, moves)
    if not are_drawable(stand):
        raise BadRow(stand)
    now = stand
    pictures = [picture(floor.spots, now)]
    for move in moves:
        now = behind_move(floor.yard, now, move)
        pictures.append(picture(floor.spots, now))
    return "\n".join(pictures)
