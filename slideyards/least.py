"""Layer 10: least rows of moves, and layers of stands as their papers."""

from slideyards.basics import frozen
from slideyards.errors import BadMove, TooMany
from slideyards.yards import behind_move, filled, is_stand, moves_at, played


class Least:
    """A least row of moves, and the layers that show that none is shorter."""

    def __init__(self, moves, layers):
        self.moves = frozen(moves)
        self.layers = frozen(layers)


class NoRow:
    """All layers of a stand, another one being in none of them."""

    def __init__(self, layers):
        self.layers = frozen(layers)


def steps_from(yard, stand):
    """All moves that can be made at a stand, ascending, each with the stand behind it."""
    moves = moves_at(yard, filled(stand))
    return [(move, tuple(behind_move(yard, stand, move))) for move in moves]


def layer_behind(yard, layer, seen):
    """The stands that moves make of those of a layer, but for those seen already.

    Each one has its pairs of a stand of the layer and a move that leads from there.
    """
    found = {}
    for stand in layer:
        for move, behind in steps_from(yard, stand):
            if behind not in seen:
                found.setdefault(behind, []).append((stand, move))
    return found


def searched(yard, one, most, other=None):
    """The layers of a stand, as layer_behind tells them, up to the one that has another stand.

    If there is none, the last one is empty. If all ahead of the last one have more stands
    than most together, they are refused.
    """
    start = tuple(one)
    found = [{start: []}]
    seen = {start: True}
    while found[-1] and other not in found[-1]:
        if len(seen) > most:
            raise TooMany(most)
        layer = layer_behind(yard, found[-1], seen)
        for stand in layer:
            seen[stand] = True
        found.append(layer)
    return found


def rows_in(found):
    """The ascending rows of the stands of all layers but the last one."""
    return tuple([tuple(sorted(layer)) for layer in found[:-1]])


def layers(yard, stand, most):
    """The tuple of all layers of a stand."""
    return rows_in(searched(yard, stand, most))


def stands_along(yard, stand, moves):
    """The stand ahead of all moves, and those behind each one."""
    stands = [tuple(stand)]
    for move in moves:
        stands.append(tuple(behind_move(yard, stands[-1], move)))
    return stands


def without_loops(yard, stand, moves):
    """The moves without those that lead back to where they came by already."""
    played(yard, stand, moves)
    stands = stands_along(yard, stand, moves)
    last = {now: at for at, now in enumerate(stands)}
    kept = []
    at = last[stands[0]]
    while at < len(moves):
        kept.append(moves[at])
        at = last[stands[at + 1]]
    return tuple(kept)


def moves_in(found, other):
    """Moves that lead by all layers to a stand of the last one."""
    moves = []
    now = other
    for layer in reversed(found[1:]):
        now, move = layer[now][0]
        moves.append(move)
    return tuple(reversed(moves))


def least_row(yard, one, other, most):
    """The least row of moves from one stand to another, or that there is none, with the layers."""
    found = searched(yard, one, most, tuple(other))
    if tuple(other) in found[-1]:
        return Least(moves_in(found, tuple(other)), rows_in(found))
    return NoRow(rows_in(found))


def are_rows_of_stands(yard, value):
    """Whether any value is a tuple of tuples of stands of a yard."""
    if not isinstance(value, tuple) or not all([isinstance(row, tuple) for row in value]):
        return False
    return all([is_stand(yard, stand) for row in value for stand in row])


def row_behind(yard, one, rows):
    """The row of the layer behind these, if they are the first ones of a stand; otherwise None."""
    if not are_rows_of_stands(yard, rows):
        return None
    behind = (tuple(one),)
    seen = {}
    for row in rows:
        if not row or row != behind:
            return None
        for stand in row:
            seen[stand] = True
        behind = tuple(sorted(layer_behind(yard, row, seen)))
    return behind


def leads_there(yard, one, other, moves):
    """Whether any value is a tuple of moves that leads from one stand to another."""
    if not isinstance(moves, tuple):
        return False
    try:
        return played(yard, one, moves) == tuple(other)
    except BadMove:
        return False


def is_least_row(yard, one, other, told):
    """Whether any value tells rightly the least row from one stand to another, or that none is."""
    is_least = isinstance(told, Least)
    if not is_least and not isinstance(told, NoRow):
        return False
    behind = row_behind(yard, one, told.layers)
    if behind is None or any([tuple(other) in row for row in told.layers]):
        return False
    if not is_least:
        return behind == ()
    return leads_there(yard, one, other, told.moves) and len(told.moves) == len(told.layers)


def greatest(yard, stand, most):
    """The greatest distance from a stand, and the ascending tuple of the stands at it."""
    rows = layers(yard, stand, most)
    return len(rows) - 1, rows[-1]


def counts_in(found):
    """For each stand of all layers how many least rows of moves lead there."""
    counts = {stand: 1 for stand in found[0]}
    for layer in found[1:]:
        for stand in layer:
            counts[stand] = sum([counts[ahead] for ahead, _ in layer[stand]])
    return counts


def least_count(yard, one, other, most):
    """How many least rows of moves lead from one stand to another."""
    found = searched(yard, one, most, tuple(other))
    return counts_in(found).get(tuple(other), 0)
