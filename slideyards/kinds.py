"""Layer 7: stands with things alike: rows of kinds, and what moves make of them."""

from slideyards.basics import frozen, is_count, is_integer, is_row
from slideyards.chains import steps_of
from slideyards.errors import BadNumber, BadRow, TooMany
from slideyards.joining import (Apart, Moves, are_outs_of_both, check_pair, given_by, is_apart,
                                is_joined, is_stand_in, join, row_by_lines, row_of, things_at_home)
from slideyards.lines import check_alike, followed, is_permutation_row, still, turned, with_product
from slideyards.lots import outs_of
from slideyards.rounds import bearing
from slideyards.yards import filled, is_named, is_stand_row

MOST_ROWS = 5000


class Reached:
    """Numbers of given permutations that lead one row of kinds to another one."""

    def __init__(self, numbers):
        self.numbers = frozen(numbers)


class Shut:
    """Closed rows of kinds, one row among them, and another one not."""

    def __init__(self, rows):
        self.rows = frozen(rows)


class Found:
    """Points of a chain, one of each level, by which one row of kinds comes of another one."""

    def __init__(self, points):
        self.points = frozen(points)


class Cases:
    """The tree of all points of a chain that fit, none of which leads to the end."""

    def __init__(self, tree):
        self.tree = frozen(tree)


class Brought:
    """Outs, and numbers of their given rounds, that lead one stand to another one."""

    def __init__(self, outs, numbers):
        self.outs = frozen(outs)
        self.numbers = frozen(numbers)


class Held:
    """Outs, and closed rows of kinds that have one stand's kinds, but not the other one's."""

    def __init__(self, outs, rows):
        self.outs = frozen(outs)
        self.rows = frozen(rows)


class Look:
    """What is looked at, and how many points were, to bring one row of kinds to another one."""

    def __init__(self, steps, one, other, most):
        self.steps = steps
        self.one = one
        self.other = other
        self.most = most
        self.looked = 0


def are_kinds(value):
    """Whether any value may be passed as a row of kinds: of integers from 1 on."""
    return is_row(value) and all([is_integer(kind) and kind >= 1 for kind in value])


def check_kinds(kinds, many):
    """Takes rows of so many kinds alone."""
    if not are_kinds(kinds) or len(kinds) != many:
        raise BadRow(kinds)


def check_most(most):
    """Takes integers from 0 on alone."""
    if not is_count(most):
        raise BadNumber("most", most)


def home_things(yard, outs, stand):
    """The row of things on home's filled places when a stand is brought home."""
    if not is_stand_in(yard, outs, stand):
        raise BadRow(stand)
    return things_at_home(yard, outs, stand)


def stand_of(yard, outs, row, kinds):
    """The stand with a filled row, and with these things when it is brought home."""
    places = bearing(yard, outs, row)
    check_kinds(kinds, len(places))
    stand = [0] * yard.places
    for place, kind in zip(places, kinds):
        stand[place] = kind
    return tuple(stand)


def moved_kinds(kinds, one):
    """The row of kinds that a permutation makes of one."""
    if not are_kinds(kinds):
        raise BadRow(kinds)
    if not is_permutation_row(one, len(kinds)):
        raise BadRow(one)
    return picked(kinds, turned(one))


def picked(kinds, numbers):
    """The kinds at these places, in this order: what a permutation makes of them, by its back."""
    return tuple([kinds[number] for number in numbers])


def rows_from(given, kinds, most=None, other=None):
    """For each row that comes from one, the row ahead of it and the number that leads to it.

    More rows than most are refused, if it is not None; no more are looked for behind another row.
    """
    start = tuple(kinds)
    backs = [turned(one) for one in given]
    ahead = {start: None}
    found = [start]
    at = 0
    while at < len(found) and other not in ahead:
        if most is not None and len(found) > most:
            raise TooMany(most)
        now = found[at]
        for number, back in enumerate(backs):
            then = picked(now, back)
            if then not in ahead:
                ahead[then] = (now, number)
                found.append(then)
        at += 1
    return ahead


def numbers_to(ahead, row):
    """The least number of numbers that lead to a row, by what rows_from tells."""
    numbers = []
    while ahead[row] is not None:
        row, number = ahead[row]
        numbers.append(number)
    return tuple(reversed(numbers))


def check_given_and_kinds(given, kinds):
    """Takes permutations of equally many numbers, and a row of as many kinds, alone."""
    check_alike(given)
    if not are_kinds(kinds) or (given and len(kinds) != len(given[0])):
        raise BadRow(kinds)


def closed_from(given, kinds, most):
    """The ascending tuple of all rows of kinds that come from one by given permutations."""
    check_given_and_kinds(given, kinds)
    check_most(most)
    return tuple(sorted(rows_from(given, kinds, most)))


def are_kinds_tuples(value):
    """Whether any value is a tuple of rows of kinds, none of them a list."""
    if not isinstance(value, tuple):
        return False
    return all([isinstance(row, tuple) and are_kinds(row) for row in value])


def is_shut(given, rows):
    """Whether any value is a tuple of unlike rows of kinds out of which no given one leads."""
    check_alike(given)
    if not are_kinds_tuples(rows):
        return False
    known = set(rows)
    if len(known) != len(rows) or len(set([len(row) for row in rows + tuple(given)])) > 1:
        return False
    backs = [turned(one) for one in given]
    return all([picked(row, back) in known for row in rows for back in backs])


def kinds_joined(given, one, other, most):
    """The least number of given ones that lead one row of kinds to another, or that none do."""
    check_given_and_kinds(given, one)
    check_kinds(other, len(one))
    check_most(most)
    ahead = rows_from(given, one, most)
    if tuple(other) in ahead:
        return Reached(numbers_to(ahead, tuple(other)))
    return Shut(sorted(ahead))


def is_reached(given, one, other, numbers):
    """Whether any value is a row of the least number of numbers that lead one row to another."""
    if not isinstance(numbers, tuple):
        return False
    if not all([is_count(number) and number < len(given) for number in numbers]):
        return False
    now = tuple(one)
    for number in numbers:
        now = picked(now, turned(given[number]))
    if now != tuple(other):
        return False
    return len(numbers) == len(numbers_to(rows_from(given, one, None, now), now))


def is_kept_out(given, one, other, rows):
    """Whether any value are closed rows that have one row, but not the other one."""
    return is_shut(given, rows) and tuple(one) in rows and tuple(other) not in rows


def is_kinds_told(given, one, other, told):
    """Whether any value tells rightly how one row of kinds comes from another, or does not."""
    check_given_and_kinds(given, one)
    check_kinds(other, len(one))
    if isinstance(told, Reached):
        return is_reached(given, one, other, told.numbers)
    return isinstance(told, Shut) and is_kept_out(given, one, other, told.rows)


def fits(look, product, level, point):
    """Whether a point of a level fits behind points of the levels ahead with this product."""
    return look.one[level] == look.other[product[point]]


def points_or_tree(look, points, product):
    """A pair: points of all levels that fit behind these ones, or None, then the tree of cases."""
    level = len(points)
    if level == len(look.steps):
        return points, None
    tree = []
    for point, step in look.steps[level].items():
        look.looked += 1
        if look.looked > look.most:
            raise TooMany(look.most)
        if fits(look, product, level, point):
            found, behind = points_or_tree(look, points + (point,), followed(step, product))
            if found is not None:
                return found, None
            tree.append(behind)
        else:
            tree.append(None)
    return None, tuple(tree)


def along(given, chain, one, other, most):
    """The least points of a chain by which one row of kinds comes from another, or all cases."""
    check_kinds(one, len(chain.levels))
    check_kinds(other, len(chain.levels))
    check_most(most)
    look = Look(steps_of(given, chain), one, other, most)
    found, tree = points_or_tree(look, (), still(len(chain.levels)))
    return Cases(tree) if found is None else Found(found)


def are_points(look, points):
    """Whether any value is a row of points, one of each level, that all fit."""
    if not isinstance(points, tuple) or len(points) != len(look.steps):
        return False
    product = still(len(look.steps))
    for level, point in enumerate(points):
        known = look.steps[level]
        if not is_integer(point) or point not in known or not fits(look, product, level, point):
            return False
        product = followed(known[point], product)
    return True


def is_tree(look, level, product, tree):
    """Whether any value is the tree of all cases of a level, behind points with this product."""
    if level == len(look.steps) or not isinstance(tree, tuple):
        return False
    known = list(look.steps[level].items())
    if len(tree) != len(known):
        return False
    for (point, step), item in zip(known, tree):
        if not fits(look, product, level, point):
            if item is not None:
                return False
        elif not is_tree(look, level + 1, followed(step, product), item):
            return False
    return True


def is_along(given, chain, one, other, told):
    """Whether any value are points that fit, one of each level, or the tree of all cases."""
    check_kinds(one, len(chain.levels))
    check_kinds(other, len(chain.levels))
    look = Look(steps_of(given, chain), one, other, None)
    if isinstance(told, Found):
        return are_points(look, told.points)
    return isinstance(told, Cases) and is_tree(look, 0, still(len(look.steps)), told.tree)


def settle(yard, one, other):
    """Moves from one stand to the other, or a paper that there are none, for all stands."""
    check_pair(yard, one, other, is_stand_row)
    if is_named(one):
        return join(yard, one, other)
    outs = outs_of(yard, filled(one))
    if filled(other) not in outs.rows:
        return Apart(outs.rows)
    rows = [things_at_home(yard, outs, stand) for stand in (one, other)]
    told = kinds_joined(given_by(yard, outs), rows[0], rows[1], MOST_ROWS)
    if isinstance(told, Reached):
        return Brought(outs, told.numbers)
    return Held(outs, told.rows)


def leads(told):
    """Whether any value tells that moves lead from one stand to another."""
    return isinstance(told, Moves) or isinstance(told, Brought)


def is_settled(yard, one, other, told):
    """Whether any value tells rightly whether moves lead from one stand to the other."""
    check_pair(yard, one, other, is_stand_row)
    if is_named(one):
        return is_joined(yard, one, other, told)
    if isinstance(told, Apart):
        return is_apart(yard, one, other, told)
    is_brought = isinstance(told, Brought)
    if not is_brought and not isinstance(told, Held):
        return False
    if not are_outs_of_both(yard, one, other, told.outs):
        return False
    given = given_by(yard, told.outs)
    rows = [things_at_home(yard, told.outs, stand) for stand in (one, other)]
    if is_brought:
        return is_reached(given, rows[0], rows[1], told.numbers)
    return is_kept_out(given, rows[0], rows[1], told.rows)


def moves_for(yard, one, other, told):
    """The row of moves from one stand to the other that a Moves or a Brought tells."""
    if isinstance(told, Moves):
        return row_of(yard, one, other, told)
    lines = tuple([("given", number) for number in told.numbers])
    if lines:
        lines = with_product(lines, list(range(len(lines))))
    return row_by_lines(yard, told.outs, (one, other), lines)
