"""What several tests draw on: wrong values of all kinds, and drawn moves."""

import inspect

from slideyards.yards import led, moves_at


class Odd:
    """A value that is like all others, if it is asked."""

    def __eq__(self, other):
        return True

    def __hash__(self):
        return 0


NO_ROWS = (None, 5, True, "", "01", b"\x00", {}, {0: 1}, {0}, range(2), iter([0]), 0.5, Odd(), Odd)

# Of a yard of four places.
NO_FILLED_ROWS = ((1, 0), (0, 0), (0, 0, 1), (0, 4), (-1, 0), (True,), (0, True), ("0",), (0.0,),
                  ((0,),), ([],), [2, 1], (None,), (0, Odd())) + NO_ROWS

NO_COUNTS = (-1, -5, True, False, None, "1", 1.0, [1], (1,), {}, Odd())


def tuples_alone(value):
    return not isinstance(value, list) and (
        not isinstance(value, tuple) or all(tuples_alone(item) for item in value))


def random_moves(dice, yard, row, many):
    """A row of moves that can be made at a filled row."""
    moves = []
    for _ in range(many):
        found = moves_at(yard, row)
        if found:
            moves.append(dice.choice(found))
            row = led(yard, row, moves[-1:])[0]
    return tuple(moves)


def check_interface(test, module, wanted):
    """Whether functions and classes have these arguments, and are defined in the module."""
    for name, arguments in wanted.items():
        found = getattr(module, name)
        test.assertEqual(" ".join(inspect.signature(found).parameters), arguments, name)
        test.assertEqual(found.__module__, module.__name__, name)


def check_error(test, kind, fields, call, *arguments):
    """Whether a call raises just this error, with these very fields."""
    with test.assertRaises(kind, msg=repr(arguments)) as caught:
        call(*arguments)
    test.assertEqual(list(vars(caught.exception)), list(fields))
    for name, value in fields.items():
        found = getattr(caught.exception, name)
        test.assertTrue(found is value or (found == value and not isinstance(value, Odd)), (name, found))
