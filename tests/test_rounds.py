"""Points [30] to [32] of DOC.md, and what [2] says of them."""

import random
import unittest

from samples import (BARE, LIFT, LINE, NO_COUNTS, NO_FILLED_ROWS, RINGS, SQUARE, THETA, WHEEL, Odd, check_error,
                     check_interface, other_outs, random_moves, tuples_alone)
from slideyards import rounds as rounds_module
from slideyards.chains import chain_of, size_of, stops_at
from slideyards.errors import BadMove, BadNumber, BadRow
from slideyards.lines import back, power, still, times
from slideyards.lots import Outs, are_outs, lost_tie, outs_of
from slideyards.rounds import Round, bearing, given_of, round_moves, rounds_along, rounds_of, unlike_rounds
from slideyards.yards import Yard, both_ways, filled, led, moves_at, played

GRID = Yard(6, both_ways([(0, 1), (1, 2), (3, 4), (4, 5), (0, 3), (1, 4), (2, 5)]), ((0, 3, 1),))
PLACED = ((LINE, (0, 2)), (LINE, (1,)), (LINE, ()), (LINE, (0, 1, 2, 3)), (SQUARE, (0, 1, 3)), (SQUARE, (1, 2)),
          (THETA, (1, 2, 3, 4, 5)), (THETA, (0, 4, 5)), (WHEEL, (1, 2, 3, 4)), (WHEEL, (1, 3)), (LIFT, (0, 2)),
          (LIFT, (0, 2, 3)), (RINGS, (0, 1, 4)), (RINGS, (0, 1, 2, 3, 4)), (RINGS, ()), (BARE, (1, 2)), (GRID, (0, 5)),
          (GRID, (1, 2, 3, 4)))


def cases():
    """Yards, and outs of a lot of them."""
    dice = random.Random(30)
    for yard, row in PLACED:
        yield yard, outs_of(yard, row)
        yield yard, other_outs(dice, yard, row)


CASES = list(cases())


def numbered_stand(yard, outs, row):
    """The stand that has the thing i + 1 on the i-th place of a row's bearing."""
    stand = [0] * yard.places
    for number, place in enumerate(led(yard, outs.home, outs.ways[outs.rows.index(row)])[1], start=1):
        stand[place] = number
    return tuple(stand)


def shown(stand, places):
    """Where each thing is among places: the permutation of the numbers less one."""
    numbers = [stand[place] - 1 for place in places]
    return tuple(numbers.index(number) for number in range(len(numbers)))


def made_at_home(yard, outs, moves):
    """The permutation that moves from home to home make of things numbered by their place."""
    stand = [0] * yard.places
    for number, place in enumerate(outs.home, start=1):
        stand[place] = number
    behind = played(yard, stand, moves)
    return shown(behind, outs.home)


class InterfaceTest(unittest.TestCase):
    def test_names_and_arguments(self):
        check_interface(self, rounds_module, {
            "bearing": "yard outs row", "Round": "row move permutation", "rounds_of": "yard outs",
            "rounds_along": "yard outs row moves", "unlike_rounds": "rounds", "given_of": "rounds",
            "round_moves": "yard outs number"})

    def test_rounds_keep_what_they_are_given(self):
        for value in (None, 5, "x", (1, [2]), {"a": 1}, Odd()):
            made = Round(value, value, value)
            self.assertTrue(made.row is value and made.move is value and made.permutation is value)
        made = Round([1], ["turn", 0], [0])
        self.assertEqual((made.row, made.move, made.permutation), ((1,), ("turn", 0), (0,)))
        self.assertEqual(list(vars(Round(1, 2, 3)).items()), [("row", 1), ("move", 2), ("permutation", 3)])

    def test_equal_to_themselves_alone(self):
        made = Round((), ("turn", 0), ())
        self.assertTrue(made == made)
        self.assertFalse(made == Round((), ("turn", 0), ()))

    def test_the_cases(self):
        for yard, outs in CASES:
            self.assertIs(are_outs(yard, outs.home, outs), True)

    def test_lists_in_outs(self):
        for yard, outs in CASES:
            told = Outs(list(outs.home), [list(row) for row in outs.rows], [list(way) for way in outs.ways])
            row = outs.rows[-1]
            self.assertEqual(bearing(yard, told, list(row)), bearing(yard, outs, row))
            one, other = rounds_of(yard, told), rounds_of(yard, outs)
            self.assertEqual([vars(item) for item in one], [vars(item) for item in other])
            moves = list(moves_at(yard, row)[:1])
            self.assertEqual(rounds_along(yard, told, list(row), moves), rounds_along(yard, outs, row, moves))
            if one:
                self.assertEqual(round_moves(yard, told, 0), round_moves(yard, outs, 0))

    def test_rows_that_are_none(self):
        outs = outs_of(LINE, (1,))
        for row in NO_FILLED_ROWS + ((), (0, 1), [0, 1], (4,)):
            check_error(self, BadRow, {"row": row}, bearing, LINE, outs, row)
            for moves in ((), (None,)):
                check_error(self, BadRow, {"row": row}, rounds_along, LINE, outs, row, moves)


class BearingTest(unittest.TestCase):
    def test_examples(self):
        outs = outs_of(SQUARE, (2, 3))
        self.assertEqual(outs.rows, ((0, 1), (0, 2), (0, 3), (1, 2), (1, 3), (2, 3)))
        self.assertEqual([bearing(SQUARE, outs, row) for row in outs.rows],
                         [(0, 1), (0, 2), (3, 0), (2, 1), (3, 1), (3, 2)])
        outs = outs_of(RINGS, (0, 1))
        self.assertEqual(bearing(RINGS, outs, (0, 2)), (2, 0))

    def test_whatever_the_way(self):
        half = (("slide", 1, 2), ("slide", 2, 3), ("slide", 0, 1), ("slide", 3, 0))
        outs = outs_of(SQUARE, (0, 1))
        turned = Outs(outs.home, outs.rows, outs.ways[:1] + tuple(half + way for way in outs.ways[1:]))
        for row in outs.rows[1:]:
            self.assertEqual(bearing(SQUARE, turned, row), bearing(SQUARE, outs, row)[::-1])

    def test_all(self):
        for yard, outs in CASES:
            for row, way in zip(outs.rows, outs.ways):
                places = bearing(yard, outs, row)
                self.assertEqual(tuple(sorted(places)), row)
                stand = [0] * yard.places
                for number, place in enumerate(outs.home, start=1):
                    stand[place] = number
                behind = played(yard, stand, way)
                self.assertEqual([behind[place] for place in places], list(range(1, len(row) + 1)))
            self.assertEqual(bearing(yard, outs, outs.home), outs.home)


class RoundsTest(unittest.TestCase):
    def test_example(self):
        yard = Yard(3, both_ways([(0, 1), (1, 2), (2, 0)]), ())
        told = rounds_of(yard, outs_of(yard, (1, 2)))
        self.assertEqual([(item.row, item.move, item.permutation) for item in told], [
            ((0, 1), ("slide", 0, 2), (0, 1)), ((0, 1), ("slide", 1, 2), (0, 1)),
            ((0, 2), ("slide", 0, 1), (1, 0)), ((0, 2), ("slide", 2, 1), (0, 1)),
            ((1, 2), ("slide", 1, 0), (1, 0)), ((1, 2), ("slide", 2, 0), (0, 1))])

    def test_rows_ascend_in_whatever_order_they_are_passed(self):
        for yard, outs in CASES:
            told = Outs(outs.home, outs.rows[::-1], outs.ways[::-1])
            self.assertEqual([vars(item) for item in rounds_of(yard, told)],
                             [vars(item) for item in rounds_of(yard, outs)])

    def test_no_moves(self):
        self.assertEqual(rounds_of(BARE, outs_of(BARE, (1, 2))), ())
        self.assertEqual(rounds_of(LINE, outs_of(LINE, ())), ())

    def test_rings_of_all_places(self):
        told = rounds_of(RINGS, outs_of(RINGS, (0, 1, 2, 3, 4)))
        self.assertEqual([(item.move, item.permutation) for item in told],
                         [(("turn", 0), (1, 2, 0, 3, 4)), (("turn", 1), (2, 1, 3, 4, 0))])

    def test_all(self):
        for yard, outs in CASES:
            told = rounds_of(yard, outs)
            self.assertIsInstance(told, tuple)
            wanted = [(row, move) for row in outs.rows for move in moves_at(yard, row)]
            self.assertEqual([(item.row, item.move) for item in told], wanted)
            for item in told:
                self.assertIsInstance(item, Round)
                self.assertTrue(tuples_alone((item.row, item.move, item.permutation)))
                behind = played(yard, numbered_stand(yard, outs, item.row), (item.move,))
                places = bearing(yard, outs, filled(behind))
                self.assertEqual(item.permutation, shown(behind, places))

    def test_fact_a(self):
        for yard, row in PLACED:
            outs = outs_of(yard, row)
            told = rounds_of(yard, outs)
            self.assertEqual({tuple(sorted(item.permutation)) for item in told} - {still(len(row))}, set())
            for way in outs.ways:
                for number in rounds_along(yard, outs, outs.home, way):
                    self.assertEqual(told[number].permutation, still(len(row)))

    def test_arguments_stay(self):
        outs = outs_of(SQUARE, (0, 1))
        kept = (outs.home, outs.rows, outs.ways)
        row, moves = [0, 1], [("slide", 1, 2)]
        rounds_of(SQUARE, outs)
        rounds_along(SQUARE, outs, row, moves)
        round_moves(SQUARE, outs, 3)
        self.assertEqual((outs.home, outs.rows, outs.ways, row, moves), kept + ([0, 1], [("slide", 1, 2)]))


class AlongTest(unittest.TestCase):
    def test_examples(self):
        outs = outs_of(LIFT, (0, 2))
        # Ahead of them are two rounds of (0, 1); (1, 2) has number 7 and 8, (2, 3) number 11.
        moves = (("slide", 0, 1), ("turn", 0), ("turn", 0), ("slide", 0, 1))
        self.assertEqual(rounds_along(LIFT, outs, (0, 2), moves), (2, 8, 11, 5))
        self.assertEqual(rounds_along(LIFT, outs, [0, 1], [("slide", 1, 2), ("slide", 2, 3)]), (0, 3))

    def test_no_moves(self):
        for yard, outs in CASES:
            self.assertEqual(rounds_along(yard, outs, outs.rows[-1], ()), ())
            self.assertEqual(rounds_along(yard, outs, outs.rows[-1], []), ())

    def test_numbers(self):
        dice = random.Random(31)
        for yard, outs in CASES:
            told = rounds_of(yard, outs)
            for row in outs.rows:
                moves = random_moves(dice, yard, row, 8)
                numbers = rounds_along(yard, outs, row, moves)
                self.assertIsInstance(numbers, tuple)
                now = row
                for number, move in zip(numbers, moves, strict=True):
                    self.assertEqual((told[number].row, told[number].move), (now, move))
                    now = led(yard, now, (move,))[0]

    def test_fact_b(self):
        dice = random.Random(32)
        for yard, outs in CASES:
            told = rounds_of(yard, outs)
            for row in outs.rows:
                moves = random_moves(dice, yard, row, dice.randrange(20))
                product = still(len(row))
                for number in rounds_along(yard, outs, row, moves):
                    product = times(product, told[number].permutation)
                behind = played(yard, numbered_stand(yard, outs, row), moves)
                self.assertEqual(product, shown(behind, bearing(yard, outs, filled(behind))))

    def test_bad_moves(self):
        outs = outs_of(LIFT, (0,))
        good = (("slide", 0, 1), ("turn", 0))
        for bad in (("slide", 1, 2), ("slide", 2, 1), ("slide", 0, 1), ("slide", 3, 0), ("turn", 1), ("turn", -1),
                    ("turn", False), ("turn", 0.0), ("turn",), ("turn", 0, 0), ["turn", 0], ["slide", 2, 3], (), None,
                    "turn", Odd(), (Odd(), 0), ("slide", Odd(), 3), ("slide", 2.0, 3), ("turn", [0]), {}, 5):
            for moves in (good + (bad, 5), list(good) + [bad]):
                check_error(self, BadMove, {"index": 2}, rounds_along, LIFT, outs, (0,), moves)
        check_error(self, BadMove, {"index": 0}, rounds_along, LIFT, outs, (3,), (("slide", 2, 3),))
        self.assertEqual(len(rounds_along(LIFT, outs, (0,), good + (("slide", 2, 3),))), 3)

    def test_long_rows(self):
        outs = outs_of(SQUARE, (0, 1))
        moves = (("slide", 1, 2), ("slide", 2, 1)) * 2000
        numbers = rounds_along(SQUARE, outs, (0, 1), moves)
        self.assertEqual(numbers, numbers[:2] * 2000)


class UnlikeTest(unittest.TestCase):
    def test_made_rounds(self):
        rows = ((0, 1, 2), (1, 0, 2), (1, 0, 2), (1, 2, 0), (0, 1, 2), [1, 2, 0], (1, 0, 2), (2, 1, 0))
        made = [Round((), ("turn", number), row) for number, row in enumerate(rows)]
        for told in (made, tuple(made)):
            self.assertEqual(unlike_rounds(told), (1, 3, 7))
            self.assertEqual(given_of(told), ((1, 0, 2), (1, 2, 0), (2, 1, 0)))
            self.assertTrue(tuples_alone((unlike_rounds(told), given_of(told))))
        self.assertEqual((unlike_rounds(()), given_of([])), ((), ()))
        self.assertEqual((unlike_rounds(made[:1]), given_of(made[:1])), ((), ()))
        self.assertEqual(unlike_rounds((Round((), (), ()),)), ())

    def test_all(self):
        for yard, outs in CASES:
            told = rounds_of(yard, outs)
            numbers = unlike_rounds(told)
            found = []
            for number, item in enumerate(told):
                moved = [i for i, j in enumerate(item.permutation) if i != j]
                if moved and item.permutation not in [other.permutation for other in told[:number]]:
                    found.append(number)
            self.assertEqual(numbers, tuple(found))
            self.assertEqual(given_of(told), tuple(told[number].permutation for number in found))


class RoundMovesTest(unittest.TestCase):
    def test_all(self):
        for yard, outs in CASES:
            for number, item in enumerate(rounds_of(yard, outs)):
                told = round_moves(yard, outs, number)
                self.assertTrue(isinstance(told, tuple) and tuples_alone(told))
                forth, about = told
                # played raises an error for moves that can't be made.
                self.assertEqual(made_at_home(yard, outs, forth), item.permutation)
                self.assertEqual(made_at_home(yard, outs, about), back(item.permutation))
                self.assertLess(len(forth) + len(about), 5000)

    def test_numbers_that_are_none(self):
        outs = outs_of(SQUARE, (0, 1))
        many = len(rounds_of(SQUARE, outs))
        for number in NO_COUNTS + (many, many + 1):
            check_error(self, BadNumber, {"what": "number", "number": number}, round_moves, SQUARE, outs, number)
        self.assertEqual(len(round_moves(SQUARE, outs, many - 1)), 2)
        check_error(self, BadNumber, {"what": "number", "number": 0}, round_moves, BARE, outs_of(BARE, (0,)), 0)

    def test_ways_that_no_moves_take_back_at_once(self):
        # All ties lead one way, so there is just one way round.
        yard = Yard(5, tuple((i, (i + 1) % 5) for i in range(5)) + ((0, 2),), ())
        outs = outs_of(yard, (0, 1, 2, 3))
        told = rounds_of(yard, outs)
        self.assertGreater(len(given_of(told)), 1)
        for number, item in enumerate(told):
            forth, about = round_moves(yard, outs, number)
            self.assertEqual(made_at_home(yard, outs, forth), item.permutation)
            self.assertEqual(made_at_home(yard, outs, about), power(item.permutation, -1))

    def test_fact_d(self):
        for yard, outs in CASES:
            given = given_of(rounds_of(yard, outs))
            chain = chain_of(len(outs.home), given)
            start = numbered_stand(yard, outs, outs.home)
            known = {start}
            waiting = [start]
            for stand in waiting:
                for move in moves_at(yard, filled(stand)):
                    behind = played(yard, stand, (move,))
                    if behind not in known:
                        known.add(behind)
                        waiting.append(behind)
            made = [shown(stand, outs.home) for stand in known if filled(stand) == outs.home]
            self.assertEqual(len(made), size_of(chain))
            for one in made:
                self.assertIsNone(stops_at(given, chain, one))


class SizesTest(unittest.TestCase):
    def test_ten_places(self):
        ties = tuple((a, b) for a in range(10) for b in range(10) if a < b or (a != b and (a + b) % 3 == 0))
        yard = Yard(10, ties, (tuple(range(10)), (0, 1, 2), (5, 7, 9, 3)))
        outs = outs_of(yard, (0, 1, 2))
        self.assertEqual(len(outs.rows), 120)
        told = rounds_of(yard, outs)
        self.assertEqual(size_of(chain_of(3, given_of(told))), 6)
        for number in range(0, len(told), 400):
            forth, about = round_moves(yard, outs, number)
            self.assertEqual(made_at_home(yard, outs, forth), told[number].permutation)
            self.assertEqual(made_at_home(yard, outs, about), back(told[number].permutation))

    def test_one_way_round(self):
        yard = Yard(10, tuple((i, (i + 1) % 10) for i in range(10)) + ((0, 2),), ((3, 4, 5),))
        self.assertIsNone(lost_tie(yard, tuple(range(3, 10))))
        outs = outs_of(yard, tuple(range(3, 10)))
        told = rounds_of(yard, outs)
        for number in range(0, len(told), 40):
            forth, about = round_moves(yard, outs, number)
            self.assertEqual(made_at_home(yard, outs, forth), told[number].permutation)
            self.assertEqual(made_at_home(yard, outs, about), back(told[number].permutation))


if __name__ == "__main__":
    unittest.main()
