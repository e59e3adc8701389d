"""Layer 3: permutations, and lines that make new ones of given ones."""

from math import lcm

from slideyards.basics import are_unlike_numbers, is_count, is_integer, is_row
from slideyards.errors import BadNumber, BadRow, TooMany


def is_permutation_row(value, m):
    """Whether any value may be passed as a permutation of so many: a tuple or a list."""
    return are_unlike_numbers(m, value) and len(value) == m


def check_permutation(one):
    """Takes permutations alone, of however many numbers."""
    if not is_row(one) or not is_permutation_row(one, len(one)):
        raise BadRow(one)


def check_many(m):
    """Takes integers from 0 on alone."""
    if not is_count(m):
        raise BadNumber("m", m)


def is_permutation(value, m):
    """Whether any value is a permutation of so many numbers, a tuple."""
    check_many(m)
    return isinstance(value, tuple) and is_permutation_row(value, m)


def still(m):
    """The permutation that leads each number to itself."""
    check_many(m)
    return tuple(range(m))


def followed(one, other):
    """First one permutation, then another one; both are not looked at."""
    return tuple([other[number] for number in one])


def turned(one):
    """A permutation turned about; it is not looked at."""
    about = [0] * len(one)
    for number, then in enumerate(one):
        about[then] = number
    return tuple(about)


def times(one, other):
    """The permutation that leads as one does, and then as the other one."""
    check_permutation(one)
    if not is_permutation_row(other, len(one)):
        raise BadRow(other)
    return followed(one, other)


def back(one):
    """The permutation that leads back where one came from."""
    check_permutation(one)
    return turned(one)


def turn_from(one, start):
    """The numbers to which a permutation leads a number, up to itself again."""
    turn = [start]
    while one[turn[-1]] != start:
        turn.append(one[turn[-1]])
    return tuple(turn)


def turns_of(one):
    """The turns of a permutation, the least number of each one first, ascending."""
    check_permutation(one)
    turns = [turn_from(one, start) for start in range(len(one))]
    return tuple([turn for turn in turns if len(turn) > 1 and turn[0] == min(turn)])


def power(one, k):
    """One permutation so many times, one behind the other; turned about for k below 0."""
    turns = turns_of(one)
    if not is_integer(k):
        raise BadNumber("k", k)
    made = list(range(len(one)))
    for turn in turns:
        for at, number in enumerate(turn):
            made[number] = turn[(at + k) % len(turn)]
    return tuple(made)


def order_of(one):
    """How many times a permutation has to be made to lead each number to itself, from 1 on."""
    order = 1
    for turn in turns_of(one):
        order = lcm(order, len(turn))
    return order


def is_even(one):
    """Whether the lengths of all turns, each less one, are an even number together."""
    return sum([len(turn) - 1 for turn in turns_of(one)]) % 2 == 0


def are_numbers_below(most, value):
    """Whether the items of a row are all integers from 0 on below a number."""
    return all([is_count(number) and number < most for number in value])


def is_line(value, ahead):
    """Whether any value is a line behind so many lines, over however many given ones."""
    if not isinstance(value, tuple) or len(value) < 2 or not isinstance(value[0], str):
        return False
    if value[0] == "given":
        return len(value) == 2 and is_count(value[1])
    if (value[0], len(value)) not in (("times", 3), ("back", 2)):
        return False
    return are_numbers_below(ahead, value[1:])


def are_any_lines(lines):
    """Whether any value is a row of lines, over however many given ones."""
    return isinstance(lines, tuple) and all([is_line(line, at) for at, line in enumerate(lines)])


def are_lines(many, lines):
    """Whether any value is a row of lines over so many given permutations."""
    if not are_any_lines(lines):
        return False
    return all([line[1] < many for line in lines if line[0] == "given"])


def check_lines(many, lines):
    """Takes lines over so many given ones alone."""
    if not are_lines(many, lines):
        raise BadRow(lines)


def check_any_lines(lines):
    """Takes lines alone, over however many given ones."""
    if not are_any_lines(lines):
        raise BadRow(lines)


def are_permutation_rows(value, m):
    """Whether any value may be passed as a row of permutations of so many numbers."""
    return is_row(value) and all([is_permutation_row(one, m) for one in value])


def check_alike(given):
    """Takes rows of permutations of equally many numbers alone."""
    m = len(given[0]) if is_row(given) and given and is_row(given[0]) else 0
    if not are_permutation_rows(given, m):
        raise BadRow(given)


def value_of(given, values, line):
    """The value of a line behind lines with these values."""
    if line[0] == "given":
        return tuple(given[line[1]])
    if line[0] == "back":
        return turned(values[line[1]])
    return followed(values[line[1]], values[line[2]])


def values_of(given, lines):
    """The tuple of the values of all lines."""
    check_alike(given)
    check_lines(len(given), lines)
    values = []
    for line in lines:
        values.append(value_of(given, values, line))
    return tuple(values)


def lines_asked(line):
    """The numbers of the lines that a line asks for."""
    return () if line[0] == "given" else line[1:]


def lines_behind(lines, ends):
    """The ascending numbers of all lines that these ones go back to, themselves among them."""
    needed = set(ends)
    for number in reversed(range(len(lines))):
        if number in needed:
            for asked in lines_asked(lines[number]):
                needed.add(asked)
    return sorted(needed)


def chosen_lines(lines, numbers):
    """The lines of these numbers, numbered anew; they ask for none but themselves."""
    anew = {number: place for place, number in enumerate(numbers)}
    chosen = []
    for number in numbers:
        line = lines[number]
        asked = [anew[ahead] for ahead in lines_asked(line)]
        chosen.append((line[0], *asked) if asked else line)
    return tuple(chosen)


def lean(lines):
    """The lines that the last one goes back to, numbered anew."""
    check_any_lines(lines)
    last = [len(lines) - 1] if lines else []
    return chosen_lines(lines, lines_behind(lines, last))


def with_product(lines, numbers):
    """The lines, and behind them lines that make the product of some of them."""
    check_any_lines(lines)
    if not is_row(numbers) or not numbers or not are_numbers_below(len(lines), numbers):
        raise BadRow(numbers)
    made = list(lines)
    if len(numbers) == 1:
        made.append(("back", numbers[0]))
        made.append(("back", len(lines)))
    last = numbers[0]
    for number in numbers[1:]:
        made.append(("times", last, number))
        last = len(made) - 1
    return tuple(made)


def check_forth_and_back(forth, back, is_item):
    """Takes two rows of equally many such items alone."""
    for row in (forth, back):
        if not is_row(row) or len(row) != len(forth) or not all([is_item(item) for item in row]):
            raise BadRow(row)


def lengths_of(forth, back, lines):
    """For each line how many items it has written out, and how many its way back."""
    check_forth_and_back(forth, back, is_count)
    check_lines(len(forth), lines)
    lengths = []
    for line in lines:
        if line[0] == "given":
            pair = (forth[line[1]], back[line[1]])
        elif line[0] == "back":
            pair = lengths[line[1]][::-1]
        else:
            one, other = lengths[line[1]], lengths[line[2]]
            pair = (one[0] + other[0], one[1] + other[1])
        lengths.append(pair)
    return tuple(lengths)


def joined_nodes(nodes, one, other):
    """The number of a node for two nodes, one behind the other."""
    if one == 0:
        return other
    if other == 0:
        return one
    # The last half stands first, as items_of takes what waits from the end.
    nodes.append(((), (other, one)))
    return len(nodes) - 1


def row_node(nodes, row):
    """The number of a node for a row."""
    if not row:
        return 0
    nodes.append((row, ()))
    return len(nodes) - 1


def last_node(forth, back, lines, nodes):
    """The number of the node of the last line; the nodes that it asks for are put behind nodes.

    Node 0 is the empty one. Each other one is a row, or halves of which none is empty, so that
    items_of has no more nodes to look at than twice the items, however many lines do nothing.
    """
    pairs = []
    for line in lines:
        if line[0] == "given":
            pair = (row_node(nodes, forth[line[1]]), row_node(nodes, back[line[1]]))
        elif line[0] == "back":
            pair = pairs[line[1]][::-1]
        else:
            one, other = pairs[line[1]], pairs[line[2]]
            pair = (joined_nodes(nodes, one[0], other[0]), joined_nodes(nodes, other[1], one[1]))
        pairs.append(pair)
    return pairs[-1][0] if pairs else 0


def items_of(nodes, last):
    """All items of a node, in their order."""
    items = []
    waiting = [last]
    while waiting:
        row, halves = nodes[waiting.pop()]
        items.extend(row)
        waiting.extend(halves)
    return tuple(items)


def written(forth, back, lines, most):
    """The last line written out, of what does the given ones and what does their backs."""
    check_forth_and_back(forth, back, is_row)
    check_lines(len(forth), lines)
    if not is_count(most):
        raise BadNumber("most", most)
    lengths = lengths_of([len(row) for row in forth], [len(row) for row in back], lines)
    if lengths and lengths[-1][0] > most:
        raise TooMany(most)
    nodes = [((), ())]
    return items_of(nodes, last_node(forth, back, lines, nodes))
