"""Layer 6: two named stands joined by moves, or a paper that no moves join them."""

from slideyards.basics import frozen, is_count
from slideyards.chains import Stopped, chain_of, is_chain, sift, stops_at
from slideyards.errors import BadRow, TooMany, Unlike
from slideyards.lines import are_lines, lean, lengths_of, still, values_of, with_product, written
from slideyards.lots import are_filled_tuples, are_outs, check_returning, lot_of, outs_of
from slideyards.rounds import (bearing, given_of, moves_home, round_moves, rounds_of, unlike_rounds,
                               way_to)
from slideyards.yards import filled, is_named, is_stand_row, things_of

MOST_MOVES = 200000


class Moves:
    """Lines of the rounds of outs; the last one of them does what is wanted."""

    def __init__(self, outs, lines, last):
        self.outs = frozen(outs)
        self.lines = frozen(lines)
        self.last = frozen(last)


class Apart:
    """The lot of one filled row, in which another one is not."""

    def __init__(self, rows):
        self.rows = frozen(rows)


class Barred:
    """A chain of all rounds of outs, and the level at which what is wanted falls out of it."""

    def __init__(self, outs, chain, level):
        self.outs = frozen(outs)
        self.chain = frozen(chain)
        self.level = frozen(level)


def is_named_stand(yard, value):
    """Whether any value may be passed as a named stand of the yard."""
    return is_stand_row(yard, value) and is_named(value)


def is_stand_in(yard, outs, value):
    """Whether any value may be passed as a stand with a filled row of outs."""
    return is_stand_row(yard, value) and filled(value) in [tuple(row) for row in outs.rows]


def things_at_home(yard, outs, stand):
    """What stands on the filled places of home when a stand is brought there."""
    return tuple([stand[place] for place in bearing(yard, outs, filled(stand))])


def wanted(yard, outs, one, other):
    """The permutation that moves have to make of one stand to lead to the other one."""
    if not is_stand_in(yard, outs, one) or not is_named(one):
        raise BadRow(one)
    if not is_stand_in(yard, outs, other) or things_of(other) != things_of(one):
        raise BadRow(other)
    there = things_at_home(yard, outs, other)
    return tuple([there.index(thing) for thing in things_at_home(yard, outs, one)])


def check_pair(yard, one, other, is_right):
    """Takes two such stands of the same things alone, the lot of the first one returning."""
    for stand in (one, other):
        if not is_right(yard, stand):
            raise BadRow(stand)
    if things_of(one) != things_of(other):
        raise Unlike("things")
    check_returning(yard, filled(one))


def given_by(yard, outs):
    """The permutations of the unlike rounds of outs."""
    return given_of(rounds_of(yard, outs))


def join(yard, one, other):
    """Moves that lead from one stand to the other, or that they lie apart or are barred."""
    check_pair(yard, one, other, is_named_stand)
    outs = outs_of(yard, filled(one))
    if filled(other) not in outs.rows:
        return Apart(outs.rows)
    row = wanted(yard, outs, one, other)
    if row == still(len(row)):
        return Moves(outs, (), None)
    given = given_by(yard, outs)
    chain = chain_of(len(row), given)
    sifted = sift(given, chain, row)
    if isinstance(sifted, Stopped):
        return Barred(outs, chain, sifted.level)
    steps = [dict(level)[point] for level, point in zip(chain.levels, sifted.points)]
    # The step of the last level is made first.
    numbers = [line for line in reversed(steps) if line is not None]
    lines = lean(with_product(chain.lines, numbers))
    return Moves(outs, lines, len(lines) - 1)


def is_apart(yard, one, other, told):
    """Whether an Apart has the lot of one stand, in which the other one is not."""
    lot = lot_of(yard, filled(one))
    if not are_filled_tuples(yard, told.rows) or told.rows != lot:
        return False
    return filled(other) not in lot


def are_outs_of_both(yard, one, other, outs):
    """Whether any value is an Outs of the lot of one stand, in which the other one is, too."""
    return are_outs(yard, filled(one), outs) and filled(other) in outs.rows


def makes(given, told, row):
    """Whether the last line of a Moves makes a permutation of given ones."""
    if not are_lines(len(given), told.lines):
        return False
    if told.last is None:
        return row == still(len(row))
    if not is_count(told.last) or told.last >= len(told.lines):
        return False
    return values_of(given, told.lines)[told.last] == row


def bars(given, told, row):
    """Whether a permutation falls out of the chain of a Barred at its level."""
    if not is_count(told.level) or not is_chain(len(row), given, told.chain):
        return False
    return stops_at(given, told.chain, row) == told.level


def is_joined(yard, one, other, told):
    """Whether any value tells rightly how two stands are joined, or that they are not."""
    check_pair(yard, one, other, is_named_stand)
    if isinstance(told, Apart):
        return is_apart(yard, one, other, told)
    is_moves = isinstance(told, Moves)
    if not is_moves and not isinstance(told, Barred):
        return False
    if not are_outs_of_both(yard, one, other, told.outs):
        return False
    given = given_by(yard, told.outs)
    row = wanted(yard, told.outs, one, other)
    return makes(given, told, row) if is_moves else bars(given, told, row)


def way_back(yard, outs, row):
    """Moves from a row to home that lead what its way leads out to its places again."""
    return moves_home(yard, outs, row)


def moves_by_lines(yard, outs, lines):
    """Rows of moves that make the given rounds of outs, and rows that make their backs.

    Rounds for which no line asks have none, as they are not needed.
    """
    numbers = unlike_rounds(rounds_of(yard, outs))
    forth = [()] * len(numbers)
    back = [()] * len(numbers)
    for given in sorted(set([line[1] for line in lines if line[0] == "given"])):
        forth[given], back[given] = round_moves(yard, outs, numbers[given])
    return forth, back


def row_by_lines(yard, outs, stands, lines):
    """The row of moves from the first one of two stands to the other, by lines of given rounds."""
    one, other = stands
    forth, back = moves_by_lines(yard, outs, lines)
    begin = way_back(yard, outs, filled(one))
    end = way_to(yard, outs, filled(other))
    lengths = lengths_of([len(row) for row in forth], [len(row) for row in back], lines)
    many = lengths[-1][0] if lengths else 0
    if len(begin) + many + len(end) > MOST_MOVES:
        raise TooMany(MOST_MOVES)
    return begin + written(forth, back, lines, MOST_MOVES) + end


def row_of(yard, one, other, told):
    """The row of moves from one stand to the other that a Moves tells."""
    check_pair(yard, one, other, is_named_stand)
    lines = () if told.last is None else lean(told.lines[:told.last + 1])
    return row_by_lines(yard, told.outs, (one, other), lines)
