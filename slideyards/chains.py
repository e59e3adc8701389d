"""Layer 4: chains of permutations, and what they bar."""

from slideyards.basics import frozen, is_count, is_integer, is_row
from slideyards.errors import BadRow
from slideyards.lines import (are_lines, are_permutation_rows, check_many, chosen_lines, followed,
                              lines_behind, still, turned, value_of, values_of)


class Chain:
    """Lines of given permutations, and levels of pairs of a point and a line's number."""

    def __init__(self, lines, levels):
        self.lines = frozen(lines)
        self.levels = frozen(levels)


class Stopped:
    """A permutation falls out of a chain: its level has no pair with the point."""

    def __init__(self, level, point):
        self.level = frozen(level)
        self.point = frozen(point)


class Sifted:
    """A permutation goes through all levels of a chain, by these points."""

    def __init__(self, points):
        self.points = frozen(points)


class Draft:
    """A chain that grows: lines with their permutations, and the levels so far.

    A level has a line's number for each of its points, or None, and steps has what it does.
    waiting are rows of one or two lines' numbers, whose products are still to be sifted.
    """

    def __init__(self, m, given):
        self.given = given
        self.lines = []
        self.permutations = []
        self.levels = [{level: None} for level in range(m)]
        self.steps = [{level: still(m)} for level in range(m)]
        self.waiting = []

    def put_line(self, line):
        """Puts a line behind the others, and tells its number."""
        self.permutations.append(value_of(self.given, self.permutations, line))
        self.lines.append(line)
        return len(self.lines) - 1

    def put_step(self, level, point, line):
        """Makes a line a step; its products with the others wait to be sifted."""
        self.levels[level][point] = line
        self.steps[level][point] = self.permutations[line]
        self.waiting.extend([(one, line) for one in step_lines(self.levels[:level + 1])])
        self.waiting.extend([(line, other) for other in step_lines(self.levels[level:])])


def step_lines(levels):
    """The numbers of all lines that are steps of these levels."""
    return [line for level in levels for line in level.values() if line is not None]


def check_given(m, given):
    """Takes integers from 0 on, and rows of permutations of so many numbers, alone."""
    check_many(m)
    if not are_permutation_rows(given, m):
        raise BadRow(given)


def steps_by(values, levels):
    """For each level its steps by their points, for lines with these values."""
    identity = still(len(levels))
    return [{point: identity if line is None else values[line] for point, line in level}
            for level in levels]


def steps_of(given, chain):
    """For each level of a chain its steps by their points."""
    return steps_by(values_of(given, chain.lines), chain.levels)


def points_along(steps, row):
    """The points to which a permutation leads, level by level; it stops at one without a step."""
    points = []
    for level, known in enumerate(steps):
        point = row[level]
        points.append(point)
        if point not in known:
            break
        row = followed(row, turned(known[point]))
    return points


def is_stop(steps, points):
    """Whether the last one of points along levels has no step there."""
    return len(points) > 0 and points[-1] not in steps[len(points) - 1]


def sift(given, chain, row):
    """The points by which a permutation goes through a chain, or where it falls out of it."""
    steps = steps_of(given, chain)
    points = points_along(steps, row)
    if is_stop(steps, points):
        return Stopped(len(points) - 1, points[-1])
    return Sifted(points)


def stops_at(given, chain, row):
    """The level at which a permutation falls out of a chain; None if it does not."""
    steps = steps_of(given, chain)
    points = points_along(steps, row)
    return len(points) - 1 if is_stop(steps, points) else None


def product_at(given, chain, points):
    """The product of the steps at points of the first levels, that of level 0 last."""
    steps = steps_of(given, chain)
    if not is_row(points) or len(points) > len(steps):
        raise BadRow(points)
    product = still(len(steps))
    for point, known in zip(points, steps):
        if not is_integer(point) or point not in known:
            raise BadRow(points)
        product = followed(known[point], product)
    return product


def is_step_pair(values, level, pair):
    """Whether any value is a pair of a point and a line that leads there, as a level needs it."""
    if not isinstance(pair, tuple) or len(pair) != 2 or not all([is_count(item) for item in pair]):
        return False
    point, line = pair
    return line < len(values) and values[line][:level + 1] == still(level) + (point,)


def is_first_pair(level, pair):
    """Whether any value is the pair with which a level begins."""
    if not isinstance(pair, tuple) or len(pair) != 2:
        return False
    return is_integer(pair[0]) and pair[0] == level and pair[1] is None


def is_level(values, level, pairs):
    """Whether any value is a level of this number, for lines with these values."""
    if not isinstance(pairs, tuple) or not pairs or not is_first_pair(level, pairs[0]):
        return False
    if not all([is_step_pair(values, level, pair) for pair in pairs[1:]]):
        return False
    return all([one[0] < other[0] for one, other in zip(pairs, pairs[1:])])


def are_levels(m, values, levels):
    """Whether any value is a row of levels of permutations of so many numbers."""
    if not isinstance(levels, tuple) or len(levels) != m:
        return False
    return all([is_level(values, level, pairs) for level, pairs in enumerate(levels)])


def products_to_sift(steps):
    """The products of each step with each one of its own level or of a later one."""
    products = []
    for level, known in enumerate(steps):
        later = [other for after in steps[level:] for other in after.values()]
        products.extend([followed(one, other) for one in known.values() for other in later])
    return products


def is_chain(m, given, told):
    """Whether any value is a chain through which all products of given permutations sift."""
    check_given(m, given)
    if not isinstance(told, Chain) or not are_lines(len(given), told.lines):
        return False
    values = values_of(given, told.lines)
    if not are_levels(m, values, told.levels):
        return False
    steps = steps_by(values, told.levels)
    rows = products_to_sift(steps) + list(given)
    return not any([is_stop(steps, points_along(steps, row)) for row in rows])


def residue_line(draft, numbers, points):
    """The number of a new line: a product of lines as it goes on behind the steps at points."""
    last = numbers[0]
    for number in numbers[1:]:
        last = draft.put_line(("times", last, number))
    for level, point in enumerate(points):
        step = draft.levels[level][point]
        if step is not None:
            about = draft.put_line(("back", step))
            last = draft.put_line(("times", last, about))
    return last


def grow(draft, numbers):
    """Sifts the product of one or two lines; if it stops, it is a new step where it does."""
    product = draft.permutations[numbers[0]]
    for number in numbers[1:]:
        product = followed(product, draft.permutations[number])
    points = points_along(draft.steps, product)
    if is_stop(draft.steps, points):
        line = residue_line(draft, numbers, points[:-1])
        draft.put_step(len(points) - 1, points[-1], line)


def grown(draft):
    """The chain of a draft, without the lines that no step goes back to."""
    numbers = lines_behind(draft.lines, step_lines(draft.levels))
    anew = {number: place for place, number in enumerate(numbers)}
    anew[None] = None
    levels = [[(point, anew[level[point]]) for point in sorted(level)] for level in draft.levels]
    return Chain(chosen_lines(draft.lines, numbers), [tuple(level) for level in levels])


def chain_of(m, given):
    """A chain through which just the products of given permutations sift."""
    check_given(m, given)
    draft = Draft(m, given)
    for number in range(len(given)):
        draft.waiting.append((draft.put_line(("given", number)),))
    at = 0
    while at < len(draft.waiting):
        grow(draft, draft.waiting[at])
        at += 1
    return grown(draft)


def size_of(chain):
    """How many products there are: the lengths of all levels, times one another."""
    size = 1
    for level in chain.levels:
        size = size * len(level)
    return size
