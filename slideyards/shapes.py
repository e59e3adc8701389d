"""Layer 9: shapes of yards: pairs, loops, blocks and colours, and what they tell of one hole."""

from math import factorial

from slideyards.basics import are_unlike_numbers, frozen, is_integer
from slideyards.errors import Unlike
from slideyards.joining import is_named_stand
from slideyards.yards import Yard, both_ways, things_of


class Colours:
    """A row of 0 and 1, one for each place, unlike for the places of each pair."""

    def __init__(self, row):
        self.row = frozen(row)


class OddLoop:
    """A loop of an odd number of places."""

    def __init__(self, places):
        self.places = frozen(places)


class Uneven:
    """The colours by which two stands can be seen to be of unlike evenness."""

    def __init__(self, row):
        self.row = frozen(row)


def pairs_of(yard):
    """The ascending tuple of the pairs of places that are tied, one way or both ways."""
    return tuple(sorted(set([(min(tie), max(tie)) for tie in yard.ties])))


def is_plain(yard):
    """Whether there are no rings, and all ties lead both ways."""
    return not yard.rings and yard.ties == both_ways(yard.ties)


def beside(yard):
    """For each place the places that are tied to it."""
    found = [[] for _ in range(yard.places)]
    for a, b in pairs_of(yard):
        found[a].append(b)
        found[b].append(a)
    return found


def grow(tree, near, start):
    """Puts all places that are linked with one into a tree, each with the one that found it."""
    tree[start] = None
    waiting = [start]
    while waiting:
        place = waiting.pop()
        for then in near[place]:
            if then not in tree:
                tree[then] = place
                waiting.append(then)


def tree_of(yard):
    """For each place the one that found it; None for the least of all that are linked."""
    near = beside(yard)
    tree = {}
    for start in range(yard.places):
        if start not in tree:
            grow(tree, near, start)
    return tree


def line_from(tree, place):
    """The places from one to the first one of its tree."""
    line = [place]
    while tree[line[-1]] is not None:
        line.append(tree[line[-1]])
    return line


def loop_by(tree, one, other):
    """The places from one to another one of its tree: with their pair, a loop."""
    up = line_from(tree, one)
    down = line_from(tree, other)
    met = [place for place in up if place in down][0]
    return up[:up.index(met)] + list(reversed(down[:down.index(met) + 1]))


def pairs_along(loop):
    """The pairs of each place of a loop and the next one, the last one being with the first."""
    return [(min(a, b), max(a, b)) for a, b in zip(loop, loop[1:] + loop[:1])]


def is_linked(yard):
    """Whether one can go from each place to each other one along pairs."""
    return list(tree_of(yard).values()).count(None) == 1


def blocks(yard):
    """The ascending tuple of all blocks, each one the ascending tuple of its places."""
    tree = tree_of(yard)
    pairs = pairs_of(yard)
    marks = {pair: number for number, pair in enumerate(pairs)}
    # All loops are put together of those that one pair closes with the tree.
    for one, other in pairs:
        met = [marks[pair] for pair in pairs_along(loop_by(tree, one, other))]
        marks = {pair: met[0] if marks[pair] in met else marks[pair] for pair in pairs}
    places = {}
    for pair in pairs:
        places.setdefault(marks[pair], []).extend(pair)
    return tuple(sorted([tuple(sorted(set(block))) for block in places.values()]))


def cuts(yard):
    """The ascending tuple of the places that are in more than one block."""
    found = [place for block in blocks(yard) for place in block]
    return tuple([place for place in range(yard.places) if found.count(place) > 1])


def colours(yard):
    """A colour for each place, unlike for those of each pair, or a loop that has none."""
    tree = tree_of(yard)
    row = [(len(line_from(tree, place)) - 1) % 2 for place in range(yard.places)]
    for one, other in pairs_of(yard):
        if row[one] == row[other]:
            return OddLoop(loop_by(tree, one, other))
    return Colours(row)


def is_row_of(value, row):
    """Whether any value is this tuple of integers: a bool would be equal to one."""
    return isinstance(value, tuple) and all([is_integer(item) for item in value]) and value == row


def is_loop(yard, value):
    """Whether any value is a loop of a yard."""
    if not isinstance(value, tuple) or not are_unlike_numbers(yard.places, value) or len(value) < 3:
        return False
    pairs = pairs_of(yard)
    return all([pair in pairs for pair in pairs_along(value)])


def is_coloured(yard, told):
    """Whether any value is the colours of a yard, or a loop for which there are none."""
    if isinstance(told, OddLoop):
        return is_loop(yard, told.places) and len(told.places) % 2 == 1
    right = colours(yard)
    return (isinstance(told, Colours) and isinstance(right, Colours)
            and is_row_of(told.row, right.row))


def block_kind(yard, block):
    """Whether a block is a "tie" or a "ring", or else "even" or "odd" by its colours."""
    if len(block) == 2:
        return "tie"
    pairs = [(a, b) for a, b in pairs_of(yard) if a in block and b in block]
    if len(pairs) == len(block):
        return "ring"
    alone = colours(Yard(yard.places, pairs, ()))
    return "even" if isinstance(alone, Colours) else "odd"


def block_count(yard, block):
    """In how many ways the things of a block can stand beside a hole; None if it is not known."""
    kind = block_kind(yard, block)
    many = len(block)
    if kind == "tie" or kind == "ring":
        return many - 1
    if many == 7:
        return None
    return factorial(many - 1) if kind == "odd" else factorial(many - 1) // 2


def plain_count(yard):
    """How many stands can be come to from each one with one hole; None where shapes don't tell."""
    if not is_plain(yard) or not is_linked(yard):
        raise Unlike("plain")
    count = yard.places
    for many in [block_count(yard, block) for block in blocks(yard)]:
        if many is None:
            return None
        count = count * many
    return count


def is_named_with_one_hole(yard, value):
    """Whether any value may be passed as a named stand of the yard with one hole."""
    return is_named_stand(yard, value) and list(value).count(0) == 1


def evenness(yard, stand):
    """0 or 1: what no slide of a named stand with one hole changes."""
    if not is_plain(yard):
        raise Unlike("plain")
    told = colours(yard)
    if isinstance(told, OddLoop):
        raise Unlike("colours")
    if not is_named_with_one_hole(yard, stand):
        raise Unlike("stand")
    turned = [i for j in range(yard.places) for i in range(j) if stand[i] > stand[j]]
    return (len(turned) + told.row[list(stand).index(0)]) % 2


def uneven(yard, one, other):
    """The colours by which two stands can't be joined; None where they don't tell."""
    if not isinstance(yard, Yard):
        return None
    try:
        is_unlike = evenness(yard, one) != evenness(yard, other)
    except Unlike:
        return None
    if not is_unlike or things_of(one) != things_of(other):
        return None
    return Uneven(colours(yard).row)


def is_uneven(yard, one, other, told):
    """Whether any value is the Uneven of a yard and two stands."""
    right = uneven(yard, one, other)
    return isinstance(told, Uneven) and right is not None and is_row_of(told.row, right.row)
