"""Points [19] to [23] of DOC.md, and what [2] says of them."""

import itertools
import random
import unittest

from samples import NO_COUNTS, NO_ROWS, Odd, check_error, check_interface, tuples_alone
from slideyards import lines as lines_module
from slideyards.errors import BadNumber, BadRow, TooMany
from slideyards.lines import (are_lines, back, is_even, is_permutation, lean, lengths_of, order_of, power, still,
                              times, turns_of, values_of, with_product, written)

NO_PERMUTATIONS = ((1,), (0, 0), (0, 2), (1, 2), (-1, 0), (True, False), (0, True), (False,), (0, 1.0), ("0",),
                   (None,), ((0,),), ([0],), [1, 1], (0, Odd()), (Odd(), Odd())) + NO_ROWS
NO_INTEGERS = (True, False, None, "1", 1.0, [1], (1,), {}, Odd())
BADLY_MADE = (["given", 0], ("given",), ("given", -1), ("given", True), ("given", 0, 0),
              ("given", "0"), ("given", None), ("given", 0.0), ("given", [0]), ("given", Odd()), ("back",),
              ("back", 1), ("back", -1), ("back", 0, 0), ("back", False), ("back", 7), ("times", 0),
              ("times", 0, 1), ("times", 1, 0), ("times", 0, 0, 0), ("times", 0, -1), ("times", 0, False),
              ("times", (0, 0)), ("times", 0, Odd()), ("times", {}, 0), ("Given", 0), ("still", 0), (0, 0), (),
              (Odd(), 0), (Odd(), 0, 0), (None, 0), (b"given", 0), "given") + NO_ROWS
# Over however many given ones.
NO_LINES = tuple([(("given", 0), line) for line in BADLY_MADE] + [[], [("given", 0)], (("back", 0),),
                 (("times", 0, 0),), ("given", 0), Odd()] + [value for value in NO_ROWS])
EXAMPLE = (("given", 1), ("given", 0), ("back", 0), ("times", 1, 1), ("times", 2, 1), ("back", 4))


def all_permutations(most):
    for m in range(most + 1):
        yield from itertools.permutations(range(m))


def drawn_permutation(dice, m):
    return tuple(dice.sample(range(m), m))


def drawn_lines(dice, many, most):
    """Lines over so many given ones."""
    made = []
    for at in range(dice.randrange(most + 1)):
        kind = dice.choice(("given", "times", "times", "back")) if at else "given"
        if kind == "given":
            made.append(("given", dice.randrange(many)))
        else:
            made.append((kind, *[dice.randrange(at) for _ in range(2 if kind == "times" else 1)]))
    return tuple(made)


def cases():
    """Given ones, and lines over them."""
    dice = random.Random(20)
    for _ in range(300):
        m = dice.randrange(6)
        given = tuple(drawn_permutation(dice, m) for _ in range(dice.randrange(1, 4)))
        yield given, drawn_lines(dice, len(given), 12)


def slow_value(given, lines, number):
    """A line's value, number by number, by the words of [20]."""
    line = lines[number]
    if line[0] == "given":
        return given[line[1]]
    one = slow_value(given, lines, line[1])
    if line[0] == "back":
        return tuple(one.index(i) for i in range(len(one)))
    other = slow_value(given, lines, line[2])
    return tuple(other[one[i]] for i in range(len(one)))


def slow_written(forth, back_rows, lines, number, is_back=False):
    """A line written out, or its way back, by the words of [21]."""
    line = lines[number]
    if line[0] == "given":
        return tuple((back_rows if is_back else forth)[line[1]])
    if line[0] == "back":
        return slow_written(forth, back_rows, lines, line[1], not is_back)
    halves = line[:0:-1] if is_back else line[1:]
    return sum([slow_written(forth, back_rows, lines, half, is_back) for half in halves], ())


class InterfaceTest(unittest.TestCase):
    def test_names_and_arguments(self):
        check_interface(self, lines_module, {
            "is_permutation": "value m", "still": "m", "times": "one other", "back": "one", "power": "one k",
            "turns_of": "one", "order_of": "one", "is_even": "one", "are_lines": "many lines",
            "values_of": "given lines", "lean": "lines", "with_product": "lines numbers",
            "lengths_of": "forth back lines", "written": "forth back lines most"})


class PermutationTest(unittest.TestCase):
    def test_is_permutation(self):
        for m in range(5):
            for value in itertools.product(range(-1, 5), repeat=m):
                self.assertIs(is_permutation(value, m), sorted(value) == list(range(m)))
                self.assertIs(is_permutation(value, m + 1), False)
        self.assertIs(is_permutation((), 0), True)
        self.assertIs(is_permutation((), 1), False)

    def test_is_permutation_of_any_value(self):
        for value in NO_PERMUTATIONS + ([], [0], [0, 1], ([0, 1],)):
            for m in range(3):
                self.assertIs(is_permutation(value, m), False, value)

    def test_bad_m(self):
        for m in NO_COUNTS:
            check_error(self, BadNumber, {"what": "m", "number": m}, still, m)
            for value in ((), (0,), None, Odd()):
                check_error(self, BadNumber, {"what": "m", "number": m}, is_permutation, value, m)

    def test_still(self):
        self.assertEqual([still(m) for m in (0, 1, 4)], [(), (0,), (0, 1, 2, 3)])

    def test_times_is_first_one_then_other(self):
        self.assertEqual(times((1, 2, 0), (0, 2, 1)), (2, 1, 0))
        self.assertEqual(times((0, 2, 1), (1, 2, 0)), (1, 0, 2))
        self.assertEqual(times((), ()), ())
        for one, other in itertools.product(itertools.permutations(range(4)), repeat=2):
            self.assertEqual(times(one, other), tuple(other[one[i]] for i in range(4)))

    def test_back(self):
        self.assertEqual(back((1, 2, 0, 3)), (2, 0, 1, 3))
        for one in all_permutations(5):
            self.assertEqual([back(one)[one[i]] for i in range(len(one))], list(range(len(one))))

    def test_power(self):
        self.assertEqual(power((1, 2, 0), 2), (2, 0, 1))
        self.assertEqual(power((1, 2, 0), -1), (2, 0, 1))
        self.assertEqual(power((), -3), ())
        dice = random.Random(19)
        for one in [drawn_permutation(dice, m) for m in (1, 2, 5, 9, 12, 12)]:
            ahead, behind = still(len(one)), still(len(one))
            for k in range(130):
                self.assertEqual((power(one, k), power(one, -k)), (ahead, behind))
                ahead, behind = times(ahead, one), times(behind, back(one))
        one = (1, 2, 3, 4, 5, 6, 0, 8, 9, 10, 11, 7)
        self.assertEqual(power(one, 1000), power(one, 1000 % 35))
        self.assertEqual(power(one, -1000), power(one, -1000 % 35))
        self.assertEqual(power(one, 10 ** 30), power(one, 10 ** 30 % 35))

    def test_turns(self):
        self.assertEqual(turns_of((3, 4, 2, 0, 5, 1)), ((0, 3), (1, 4, 5)))
        self.assertEqual(turns_of((2, 0, 1)), ((0, 2, 1),))
        self.assertEqual(turns_of((0, 1, 2)), ())
        self.assertEqual(turns_of(()), ())
        for one in all_permutations(6):
            turns = turns_of(one)
            self.assertEqual(list(turns), sorted(turns))
            numbers = [number for turn in turns for number in turn]
            self.assertEqual(sorted(numbers), [i for i in range(len(one)) if one[i] != i])
            for turn in turns:
                self.assertEqual(turn[0], min(turn))
                self.assertEqual([one[number] for number in turn], [*turn[1:], turn[0]])

    def test_order(self):
        self.assertEqual(order_of(()), 1)
        self.assertEqual(order_of((0, 1)), 1)
        self.assertEqual(order_of((1, 2, 0, 4, 3)), 6)
        self.assertEqual(order_of((1, 2, 0, 4, 5, 6, 3, 8, 9, 10, 11, 7)), 60)
        for one in all_permutations(6):
            order = order_of(one)
            found = [k for k in range(1, order + 1) if power(one, k) == still(len(one))]
            self.assertEqual(found, [order])

    def test_even(self):
        self.assertIs(is_even(()), True)
        for one in all_permutations(6):
            pairs = [1 for i, j in itertools.combinations(range(len(one)), 2) if one[i] > one[j]]
            self.assertIs(is_even(one), len(pairs) % 2 == 0)

    def test_facts_a_and_b(self):
        dice = random.Random(1)
        for _ in range(300):
            m = dice.randrange(13)
            a, b, c = [drawn_permutation(dice, m) for _ in range(3)]
            self.assertEqual(times(times(a, b), c), times(a, times(b, c)))
            self.assertEqual((times(a, back(a)), times(back(a), a)), (still(m), still(m)))
            self.assertEqual(power(a, order_of(a) - 1), back(a))
            self.assertIs(is_even(times(a, b)), is_even(a) == is_even(b))

    def test_lists_may_be_passed(self):
        one = [2, 0, 1]
        told = (times(one, [1, 0, 2]), back(one), power(one, 2), power(one, 0), turns_of(one))
        self.assertEqual(told, ((2, 1, 0), (1, 2, 0), (1, 2, 0), (0, 1, 2), ((0, 2, 1),)))
        self.assertEqual((order_of(one), is_even(one), one), (3, True, [2, 0, 1]))
        self.assertTrue(tuples_alone(told))

    def test_bad_one(self):
        for one in NO_PERMUTATIONS:
            for call in (back, turns_of, order_of, is_even):
                check_error(self, BadRow, {"row": one}, call, one)
            for other in (None, (0,), one):
                check_error(self, BadRow, {"row": one}, times, one, other)
            for k in (2, None, True):
                check_error(self, BadRow, {"row": one}, power, one, k)

    def test_bad_other(self):
        for other in NO_PERMUTATIONS + ((), (0,), (0, 1, 2), [0], ((0, 1),)):
            check_error(self, BadRow, {"row": other}, times, (1, 0), other)

    def test_bad_k(self):
        for k in NO_INTEGERS:
            check_error(self, BadNumber, {"what": "k", "number": k}, power, (1, 0), k)
            check_error(self, BadNumber, {"what": "k", "number": k}, power, (), k)


class LinesTest(unittest.TestCase):
    def test_are_lines(self):
        self.assertIs(are_lines(2, EXAMPLE), True)
        self.assertIs(are_lines(1, EXAMPLE), False)
        self.assertIs(are_lines(0, ()), True)
        self.assertIs(are_lines(0, (("given", 0),)), False)
        for given, lines in cases():
            self.assertIs(are_lines(len(given), lines), True)
            self.assertIs(are_lines(len(given), list(lines)), False)

    def test_are_lines_of_any_value(self):
        for value in NO_LINES + ((("given", 0), ("given", 2)),):
            self.assertIs(are_lines(2, value), False, value)

    def test_values(self):
        self.assertEqual(values_of(((1, 2, 0), (1, 0, 2)), EXAMPLE),
                         ((1, 0, 2), (1, 2, 0), (1, 0, 2), (2, 0, 1), (2, 1, 0), (2, 1, 0)))
        self.assertEqual(values_of((), ()), ())
        self.assertEqual(values_of(((0,),), ()), ())
        self.assertEqual(values_of(((), ()), (("given", 1), ("back", 0))), ((), ()))
        for given, lines in cases():
            self.assertEqual(values_of(given, lines),
                             tuple(slow_value(given, lines, number) for number in range(len(lines))))

    def test_values_of_lists(self):
        told = values_of([[1, 0], (0, 1)], (("given", 0), ("given", 1)))
        self.assertEqual(told, ((1, 0), (0, 1)))
        self.assertTrue(tuples_alone(told))

    def test_bad_given(self):
        bad = [((0, 1), one) for one in NO_PERMUTATIONS + ((), (0,), (0, 1, 2))]
        for given in bad + [(one, (0, 1)) for one in NO_PERMUTATIONS] + list(NO_ROWS) + [((1,),), [[1]]]:
            for lines in ((), None):
                check_error(self, BadRow, {"row": given}, values_of, given, lines)

    def test_bad_lines(self):
        for lines in NO_LINES:
            check_error(self, BadRow, {"row": lines}, values_of, ((1, 0), (0, 1)), lines)
        check_error(self, BadRow, {"row": EXAMPLE}, values_of, ((1, 0),), EXAMPLE)
        check_error(self, BadRow, {"row": EXAMPLE}, values_of, (), EXAMPLE)

    def test_lean(self):
        self.assertEqual(lean(()), ())
        self.assertEqual(lean(EXAMPLE), (("given", 1), ("given", 0), ("back", 0), ("times", 2, 1), ("back", 3)))
        self.assertEqual(lean(EXAMPLE[:4]), (("given", 0), ("times", 0, 0)))
        self.assertEqual(lean(EXAMPLE + (("given", 5),)), (("given", 5),))
        self.assertEqual(lean((("given", 0), ("given", 0), ("times", 1, 0))),
                         (("given", 0), ("given", 0), ("times", 1, 0)))

    def test_lean_keeps_what_is_asked_for_alone(self):
        for _, lines in cases():
            asked = {len(lines) - 1}
            for number in range(len(lines) - 1, -1, -1):
                if number in asked and lines[number][0] != "given":
                    asked.update(lines[number][1:])
            kept = sorted(asked)[-len(lines):] if lines else []
            wanted = tuple(lines[number] if lines[number][0] == "given" else
                           (lines[number][0], *[kept.index(ahead) for ahead in lines[number][1:]])
                           for number in kept)
            self.assertEqual(lean(lines), wanted)
            self.assertEqual(lean(lean(lines)), lean(lines))

    def test_with_product(self):
        lines = EXAMPLE[:4]
        self.assertEqual(with_product(lines, (3, 0)), lines + (("times", 3, 0),))
        self.assertEqual(with_product(lines, [0, 1, 1, 2]),
                         lines + (("times", 0, 1), ("times", 4, 1), ("times", 5, 2)))
        self.assertEqual(with_product(lines, (2,)), lines + (("back", 2), ("back", 4)))
        self.assertEqual(with_product((("given", 0),), (0, 0)), (("given", 0), ("times", 0, 0)))

    def test_fact_c(self):
        dice = random.Random(3)
        for given, lines in cases():
            if lines:
                values = values_of(given, lines)
                self.assertEqual(values_of(given, lean(lines))[-1], values[-1])
                numbers = [dice.randrange(len(lines)) for _ in range(dice.randrange(1, 5))]
                product = still(len(given[0]))
                for number in numbers:
                    product = times(product, values[number])
                longer = with_product(lines, numbers)
                self.assertEqual(longer[:len(lines)], lines)
                self.assertEqual(values_of(given, longer)[-1], product)

    def test_lines_over_however_many(self):
        lines = (("given", 10 ** 9), ("back", 0))
        self.assertEqual(lean(lines), lines)
        self.assertEqual(with_product(lines, (1, 0)), lines + (("times", 1, 0),))

    def test_bad_lines_of_lean_and_with_product(self):
        for lines in NO_LINES:
            check_error(self, BadRow, {"row": lines}, lean, lines)
            for numbers in ((0,), (), None):
                check_error(self, BadRow, {"row": lines}, with_product, lines, numbers)

    def test_bad_numbers(self):
        bad = [(), [], (6,), (-1,), (0, 6), (0, True), (False,), (0, 1.0), ("0",), (None,), ((0,),), ([],),
               (0, Odd())]
        for numbers in bad + list(NO_ROWS):
            check_error(self, BadRow, {"row": numbers}, with_product, EXAMPLE, numbers)
        for numbers in ((), (0,)):
            check_error(self, BadRow, {"row": numbers}, with_product, (), numbers)


NO_LENGTHS = ((1, -1), (1, True), (1, 1.0), (1, None), (1, "1"), (1, (1,)), [1, [1]], (1, Odd())) + NO_ROWS
NO_ROWS_OF_ROWS = tuple([((), row) for row in NO_ROWS] + [[(), 1]]) + NO_ROWS


class WrittenTest(unittest.TestCase):
    def test_example(self):
        forth, back_rows = (("a", "b"), ("c",)), (("B", "A", "x"), ())
        self.assertEqual(lengths_of((2, 1), (3, 0), EXAMPLE), ((1, 0), (2, 3), (0, 1), (4, 6), (2, 4), (4, 2)))
        wanted = [("c",), ("a", "b"), (), ("a", "b", "a", "b"), ("a", "b"), ("B", "A", "x", "c")]
        for number, row in enumerate(wanted):
            self.assertEqual(written(forth, back_rows, EXAMPLE[:number + 1], 4), row)

    def test_no_lines(self):
        self.assertEqual(written((), (), (), 0), ())
        self.assertEqual(written(((1, 2),), ((3,),), (), 0), ())
        self.assertEqual(lengths_of((), (), ()), ())
        self.assertEqual(lengths_of((4,), (0,), ()), ())

    def test_all(self):
        dice = random.Random(21)
        for given, lines in cases():
            forth, back_rows = [[[dice.choice("abc") for _ in range(dice.randrange(4))] for _ in given]
                                for _ in range(2)]
            wanted = [(slow_written(forth, back_rows, lines, number),
                       slow_written(forth, back_rows, lines, number, True)) for number in range(len(lines))]
            lengths = lengths_of([len(row) for row in forth], [len(row) for row in back_rows], lines)
            self.assertEqual(lengths, tuple((len(row), len(about)) for row, about in wanted))
            self.assertTrue(tuples_alone(lengths))
            for number in range(len(lines)):
                row = wanted[number][0]
                told = written(forth, back_rows, lines[:number + 1], len(row))
                self.assertEqual(told, row)
                self.assertIsInstance(told, tuple)
                # Fact D.
                self.assertEqual(lengths_of([len(row) for row in forth], [len(row) for row in back_rows],
                                            lines[:number + 1])[-1][0], len(row))
                if row:
                    check_error(self, TooMany, {"most": len(row) - 1}, written, forth, back_rows,
                                lines[:number + 1], len(row) - 1)

    def test_fact_e(self):
        dice = random.Random(22)
        for given, lines in cases():
            m = len(given[0])
            forth, back_rows = [], []
            for one in given:
                for rows, wanted in ((forth, one), (back_rows, back(one))):
                    items = [drawn_permutation(dice, m) for _ in range(dice.randrange(3))]
                    done = still(m)
                    for item in items:
                        done = times(done, item)
                    rows.append((*items, times(back(done), wanted)))
            if lines:
                done = still(m)
                for item in written(forth, back_rows, lines, 10 ** 5):
                    done = times(done, item)
                self.assertEqual(done, values_of(given, lines)[-1])

    def test_items_of_any_kind(self):
        items = [Odd(), None, [1], {}, ("turn", 0), 0.5]
        told = written((items,), ((),), (("given", 0), ("times", 0, 0)), 12)
        self.assertTrue(all(item is other for item, other in zip(told, items * 2)))
        self.assertEqual(len(told), 12)

    def test_bad_forth_and_back(self):
        for forth in NO_LENGTHS:
            check_error(self, BadRow, {"row": forth}, lengths_of, forth, None, None)
        for about in NO_LENGTHS + ((), (1,), (1, 1, 1)):
            check_error(self, BadRow, {"row": about}, lengths_of, (1, 1), about, None)
        for forth in NO_ROWS_OF_ROWS:
            check_error(self, BadRow, {"row": forth}, written, forth, None, None, None)
        for about in NO_ROWS_OF_ROWS + ((), ((),), ((), (), ())):
            check_error(self, BadRow, {"row": about}, written, ((), ()), about, None, None)

    def test_bad_lines(self):
        for lines in NO_LINES:
            check_error(self, BadRow, {"row": lines}, lengths_of, (1, 1), (1, 1), lines)
            check_error(self, BadRow, {"row": lines}, written, ((), ()), ((), ()), lines, None)
        check_error(self, BadRow, {"row": EXAMPLE}, lengths_of, (1,), (1,), EXAMPLE)
        check_error(self, BadRow, {"row": EXAMPLE}, written, ((),), ((),), EXAMPLE, 5)

    def test_bad_most(self):
        for most in NO_COUNTS:
            for lines in ((), EXAMPLE):
                check_error(self, BadNumber, {"what": "most", "number": most}, written,
                            ((1,) * 9, ()), ((), ()), lines, most)

    def test_towers(self):
        tower = (("given", 0),) + tuple(("times", at, at) for at in range(1999))
        self.assertEqual(lengths_of((3,), (1,), tower)[-1], (3 * 2 ** 1999, 2 ** 1999))
        check_error(self, TooMany, {"most": 100000}, written, (("a",),), ((),), tower, 100000)
        self.assertEqual(written(((),), (("a",),), tower, 0), ())
        check_error(self, TooMany, {"most": 0}, written, ((),), (("a",),), tower + (("back", 1999),), 0)
        self.assertEqual(written(((),), (("a",),), tower + (("given", 0), ("back", 2000)), 1), ("a",))
        self.assertEqual(len(values_of(((1, 2, 0),), tower)), 2000)
        self.assertEqual(lean(tower), tower)

    def test_long_towers_that_do_little(self):
        # Turned about a thousand times, then twice as long sixteen times.
        lines = (("given", 0),) + tuple(("back", at) for at in range(1000))
        lines += tuple(("times", at, at) for at in range(1000, 1016))
        self.assertEqual(written((("a",),), (("b",),), lines, 65536), ("a",) * 65536)
        # A thousand times with nothing at both sides.
        lines = (("given", 0), ("given", 1)) + tuple(("times", *sorted((0, at), reverse=at % 2 == 0))
                                                     for at in range(1, 1001))
        lines += tuple(("times", at, at) for at in range(1001, 1017))
        self.assertEqual(written(((), ("a",)), ((), ()), lines, 100000), ("a",) * 65536)

    def test_a_long_stair(self):
        lines = (("given", 0), ("given", 1)) + tuple(("times", at, 0) for at in range(1, 1999))
        forth = (tuple(range(50)), ("x",))
        self.assertEqual(written(forth, ((), ()), lines, 100000), ("x",) + tuple(range(50)) * 1998)


if __name__ == "__main__":
    unittest.main()
