"""Layer 5: the rounds of single moves, what rows of moves do by them, and moves that make them."""

from slideyards.basics import frozen, is_count
from slideyards.errors import BadMove, BadNumber, BadRow
from slideyards.lines import order_of, still
from slideyards.lots import way_home
from slideyards.yards import is_filled_row, is_move, led, moves_at, taken_back


class Round:
    """A move at a filled row, and what it does to things numbered by the bearings."""

    def __init__(self, row, move, permutation):
        self.row = frozen(row)
        self.move = frozen(move)
        self.permutation = frozen(permutation)


def way_to(yard, outs, row):
    """The way of a row of outs."""
    rows = [tuple(item) for item in outs.rows]
    if not is_filled_row(yard, row) or tuple(row) not in rows:
        raise BadRow(row)
    return tuple(outs.ways[rows.index(tuple(row))])


def bearing(yard, outs, row):
    """The places to which the way of a row leads what stands at home."""
    return led(yard, outs.home, way_to(yard, outs, row))[1]


def moves_of(yard, outs):
    """The pairs of a row of outs, ascending, and a move at it, ascending: one for each round."""
    rows = sorted([tuple(row) for row in outs.rows])
    return [(row, move) for row in rows for move in moves_at(yard, row)]


def permutation_of(yard, bearings, row, move):
    """What a move at a row does to things numbered by the bearings."""
    behind, places = led(yard, row, (move,))
    place_behind = dict(zip(row, places))
    return tuple([bearings[behind].index(place_behind[place]) for place in bearings[row]])


def rounds_of(yard, outs):
    """The rounds of all moves at all rows of outs."""
    bearings = {tuple(row): bearing(yard, outs, row) for row in outs.rows}
    return tuple([Round(row, move, permutation_of(yard, bearings, row, move))
                  for row, move in moves_of(yard, outs)])


def rounds_along(yard, outs, row, moves):
    """The numbers of the rounds that a row of moves from a row makes, one for each move."""
    way_to(yard, outs, row)
    numbers = {pair: number for number, pair in enumerate(moves_of(yard, outs))}
    now = tuple(row)
    made = []
    for index, move in enumerate(moves):
        if not is_move(yard, move) or (now, move) not in numbers:
            raise BadMove(index)
        made.append(numbers[(now, move)])
        now = led(yard, now, (move,))[0]
    return tuple(made)


def unlike_rounds(rounds):
    """The numbers of the rounds that do something, and what no round ahead does."""
    seen = set()
    numbers = []
    for number, item in enumerate(rounds):
        one = item.permutation
        if one != still(len(one)) and one not in seen:
            seen.add(one)
            numbers.append(number)
    return tuple(numbers)


def given_of(rounds):
    """The permutations of the unlike rounds."""
    return tuple([rounds[number].permutation for number in unlike_rounds(rounds)])


def shorter(one, other):
    """The shorter one of two rows of moves; the other one may be None."""
    return one if other is None or len(one) <= len(other) else other


def undone(yard, home, moves):
    """Moves from home to home that take back what moves from home to home do."""
    places = led(yard, home, moves)[1]
    order = order_of([home.index(place) for place in places])
    return shorter(moves * (order - 1), taken_back(yard, moves))


def moves_home(yard, outs, row):
    """Moves from a row to home that lead what its way leads out to its places again."""
    way = way_to(yard, outs, row)
    home = way_home(yard, row)
    return shorter(home + undone(yard, outs.home, way + home), taken_back(yard, way))


def round_moves(yard, outs, number):
    """Two rows of moves from home to home: one does what a round does, the other one its back."""
    pairs = moves_of(yard, outs)
    if not is_count(number) or number >= len(pairs):
        raise BadNumber("number", number)
    row, move = pairs[number]
    behind = led(yard, row, (move,))[0]
    forth = way_to(yard, outs, row) + (move,) + moves_home(yard, outs, behind)
    return forth, undone(yard, outs.home, forth)
