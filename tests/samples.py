"""What several tests draw on: yards, wrong values of all kinds, drawn moves, slow searches, checks."""

import inspect

from slideyards.lots import Outs, outs_of, way_home
from slideyards.yards import Yard, both_ways, led, moves_at


class Odd:
    """A value that is like all others, if it is asked."""

    def __eq__(self, other):
        return True

    def __hash__(self):
        return 0


# A loop of five with a place inside is THETA; things fall from 0 by 1 to 2 and 3 in FALL.
LINE = Yard(4, both_ways([(0, 1), (1, 2), (2, 3)]), ())
SQUARE = Yard(4, both_ways([(0, 1), (1, 2), (2, 3), (3, 0)]), ())
THETA = Yard(6, both_ways([(0, 1), (1, 2), (2, 3), (3, 4), (4, 0), (0, 5), (5, 2)]), ())
GRID = Yard(6, both_ways([(0, 1), (1, 2), (3, 4), (4, 5), (0, 3), (1, 4), (2, 5)]), ())
WHEEL = Yard(5, ((0, 1), (1, 2), (2, 3), (3, 4), (4, 0), (0, 2)), ())
LIFT = Yard(4, ((0, 1), (1, 2), (2, 3)), ((0, 1, 2, 3),))
RINGS = Yard(5, (), ((0, 1, 2), (2, 3, 4, 0)))
BARE = Yard(3, (), ())
PARTS = Yard(5, both_ways([(0, 1), (2, 3), (3, 4)]), ())
FALL = Yard(4, ((0, 1), (1, 2), (1, 3), (2, 3), (3, 2)), ())

NO_ROWS = (None, 5, True, "", "01", b"\x00", {}, {0: 1}, {0}, range(2), iter([0]), 0.5, Odd(), Odd)

# Of a yard of four places.
NO_FILLED_ROWS = ((1, 0), (0, 0), (0, 0, 1), (0, 4), (-1, 0), (True,), (0, True), ("0",), (0.0,),
                  ((0,),), ([],), [2, 1], (None,), (0, Odd())) + NO_ROWS

# Of a yard of four places; behind the first line what is_stand refuses for its kinds alone.
NO_STANDS = ((), (0, 0, 0), (0, 0, 0, 0, 0), (0, -1, 0, 0), ((0,), 0, 0, 0),
             (0, True, 0, 0), (False, 0, 0, 0), (0, "1", 0, 0), (0, 1.0, 0, 0), (0, None, 0, 0), (0, Odd(), 0, 0),
             [0, 0, 0], [[0], 0, 0, 0], "0000", b"0000") + NO_ROWS

NO_COUNTS = (-1, -5, True, False, None, "1", 1.0, [1], (1,), {}, Odd())


def tuples_alone(value):
    return not isinstance(value, list) and (
        not isinstance(value, tuple) or all(tuples_alone(item) for item in value))


def random_moves(dice, yard, row, many):
    """A row of moves that can be made at a filled row."""
    moves = []
    for _ in range(many):
        found = moves_at(yard, row)
        if found:
            moves.append(dice.choice(found))
            row = led(yard, row, moves[-1:])[0]
    return tuple(moves)


def other_outs(dice, yard, row):
    """Outs with other ways: some moves that lead anywhere, home again, and then the way out."""
    outs = outs_of(yard, row)
    ways = []
    for way in outs.ways:
        ahead = random_moves(dice, yard, outs.home, dice.randrange(6))
        ahead += way_home(yard, led(yard, outs.home, ahead)[0])
        # The way to home itself has to lead each thing to its place again.
        ways.append(ahead + way if way else ahead * 60)
    return Outs(outs.home, outs.rows, ways)


def check_interface(test, module, wanted):
    """Whether functions and classes have these arguments, and are defined in the module."""
    for name, arguments in wanted.items():
        found = getattr(module, name)
        test.assertEqual(" ".join(inspect.signature(found).parameters), arguments, name)
        test.assertEqual(found.__module__, module.__name__, name)


def check_kept(test, kind, names):
    """Whether objects of a class keep what they are given, lists as tuples, and are equal to themselves alone."""
    for value in (None, 5, "x", (1, [2]), {"a": 1}, Odd()):
        made = kind(*[value] * len(names))
        test.assertEqual(list(vars(made)), names)
        test.assertTrue(all(kept is value for kept in vars(made).values()))
    rows = [[1], 2]
    made = kind(*[rows] * len(names))
    rows.append(3)
    test.assertTrue(all(kept == ([1], 2) for kept in vars(made).values()))
    made = kind(*range(len(names)))
    test.assertEqual(list(vars(made).values()), list(range(len(names))))
    test.assertTrue(made == made)
    test.assertFalse(made == kind(*range(len(names))))


def check_error(test, kind, fields, call, *arguments):
    """Whether a call raises just this error, with these very fields."""
    with test.assertRaises(kind, msg=repr(arguments)) as caught:
        call(*arguments)
    test.assertEqual(list(vars(caught.exception)), list(fields))
    for name, value in fields.items():
        found = getattr(caught.exception, name)
        test.assertTrue(found is value or (found == value and not isinstance(value, Odd)), (name, found))


def stands_behind(yard, stand):
    """The pairs of a move and the stand behind it, by the words of [8] and [10]."""
    found = []
    for a, b in yard.ties:
        if stand[a] and not stand[b]:
            behind = list(stand)
            behind[a], behind[b] = 0, stand[a]
            found.append((("slide", a, b), tuple(behind)))
    for number, ring in enumerate(yard.rings):
        behind = list(stand)
        for place, then in zip(ring, ring[1:] + ring[:1]):
            behind[then] = stand[place]
        found.append((("turn", number), tuple(behind)))
    return found


def distances(yard, stand):
    """All stands that can be come to, each with the least number of moves to it."""
    found = {tuple(stand): 0}
    waiting = [tuple(stand)]
    for now in waiting:
        for _, behind in stands_behind(yard, now):
            if behind not in found:
                found[behind] = found[now] + 1
                waiting.append(behind)
    return found


def stand_with(yard, row, things):
    """The stand with these things on these places, in this order."""
    stand = [0] * yard.places
    for place, thing in zip(row, things, strict=True):
        stand[place] = thing
    return tuple(stand)
