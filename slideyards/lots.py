"""Layer 2: lots of filled rows, the ways that lead out from home, and the way home."""

from slideyards.basics import frozen
from slideyards.errors import BadMove, BadRow, BadTie
from slideyards.yards import behind_move, filled, is_filled_row, led, moves_at


class Outs:
    """The rows of a lot, and for each one a way that leads to it from home."""

    def __init__(self, home, rows, ways):
        self.home = frozen(home)
        self.rows = frozen(rows)
        self.ways = frozen(ways)


def check_row(yard, row):
    """Takes filled rows of the yard alone."""
    if not is_filled_row(yard, row):
        raise BadRow(row)


def steps_at(yard, row):
    """All moves that can be made at a filled row, ascending, each with the row behind it."""
    stand = [1 if place in row else 0 for place in range(yard.places)]
    return [(move, filled(behind_move(yard, stand, move))) for move in moves_at(yard, row)]


def ways_from(yard, row):
    """For each row of the lot of a row the least one of the shortest rows of moves to it."""
    start = tuple(row)
    ways = {start: ()}
    found = [start]
    at = 0
    # Rows are found in the order of their ways, so the first way to a row is its least one.
    while at < len(found):
        now = found[at]
        for move, behind in steps_at(yard, now):
            if behind not in ways:
                ways[behind] = ways[now] + (move,)
                found.append(behind)
        at += 1
    return ways


def lot_of(yard, row):
    """The ascending tuple of all filled rows to which moves lead from a row."""
    check_row(yard, row)
    return tuple(sorted(ways_from(yard, row)))


def is_filled_tuple(yard, value):
    """Whether any value is a filled row of the yard, and no list."""
    return isinstance(value, tuple) and is_filled_row(yard, value)


def are_filled_tuples(yard, value):
    """Whether any value is a tuple of filled rows of the yard, none of them a list."""
    return isinstance(value, tuple) and all([is_filled_tuple(yard, row) for row in value])


def is_closed(yard, rows):
    """Whether any value is a tuple of unlike filled rows out of which no move leads."""
    if not are_filled_tuples(yard, rows):
        return False
    known = set(rows)
    if len(known) != len(rows):
        return False
    return all([behind in known for row in rows for _, behind in steps_at(yard, row)])


def deep_order(ahead):
    """All rows, each one behind those that it leads to, but for those that lead back to it.

    ahead has for each row the rows to which its moves lead.
    """
    order = []
    seen = set()
    for start in ahead:
        waiting = [(start, False)]
        while waiting:
            row, is_done = waiting.pop()
            if is_done:
                order.append(row)
            elif row not in seen:
                seen.add(row)
                waiting.append((row, True))
                waiting.extend([(then, False) for then in ahead[row]])
    return order


def parts_of(ahead):
    """For each row one row of its part; a part are rows that all lead to one another."""
    behind = {row: [] for row in ahead}
    for row in ahead:
        for then in ahead[row]:
            behind[then].append(row)
    parts = {}
    for start in reversed(deep_order(ahead)):
        waiting = [start]
        while waiting:
            row = waiting.pop()
            if row not in parts:
                parts[row] = start
                waiting.extend(behind[row])
    return parts


def lost_tie(yard, row):
    """The least tie that is lost from a row; None if there is none."""
    steps = {now: steps_at(yard, now) for now in lot_of(yard, row)}
    parts = parts_of({now: [behind for _, behind in steps[now]] for now in steps})
    # A turn comes back by more turns, so moves out of a part are slides.
    lost = [move[1:] for now in steps for move, behind in steps[now] if parts[behind] != parts[now]]
    return min(lost, default=None)


def check_returning(yard, row):
    """Takes filled rows of returning lots alone."""
    lost = lost_tie(yard, row)
    if lost is not None:
        raise BadTie(lost)


def outs_of(yard, row):
    """The rows of the lot of a row, with the least one of the shortest ways to each from home."""
    check_returning(yard, row)
    rows = lot_of(yard, row)
    ways = ways_from(yard, rows[0])
    return Outs(rows[0], rows, [ways[item] for item in rows])


def leads_to(yard, home, way, row):
    """Whether any value is a tuple of moves that leads from home to a row."""
    if not isinstance(way, tuple):
        return False
    try:
        return led(yard, home, way)[0] == row
    except BadMove:
        return False


def are_outs(yard, row, told):
    """Whether any value is an Outs of the lot of a row, with ways that lead where they have to."""
    if lost_tie(yard, row) is not None or not isinstance(told, Outs):
        return False
    rows = lot_of(yard, row)
    home = rows[0]
    # What is equal to a row may be none, such as one of bools, so its kind is asked first.
    if not is_filled_tuple(yard, told.home) or told.home != home:
        return False
    if not are_filled_tuples(yard, told.rows) or told.rows != rows:
        return False
    if not isinstance(told.ways, tuple) or len(told.ways) != len(rows):
        return False
    if not all([leads_to(yard, home, way, item) for way, item in zip(told.ways, rows)]):
        return False
    return led(yard, home, told.ways[0])[1] == home


def way_home(yard, row):
    """The least one of the shortest rows of moves from a row to home."""
    check_returning(yard, row)
    ways = ways_from(yard, row)
    return ways[min(ways)]
