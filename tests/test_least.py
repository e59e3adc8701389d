"""Points [50] to [54] of DOC.md, and what [2] says of them."""

import itertools
import random
import unittest

from samples import (BARE, FALL, GRID, LIFT, LINE, NO_ROWS, NO_STANDS, PARTS, RINGS, SQUARE, THETA, WHEEL, Odd,
                     check_error, check_interface, check_kept, distances, random_moves, stands_behind, tuples_alone)
from slideyards import least
from slideyards.counts import count_of
from slideyards.errors import BadMove, BadRow, TooMany
from slideyards.least import Least, NoRow, greatest, is_least_row, layers, least_count, least_row, without_loops
from slideyards.yards import Yard, both_ways, filled, played

# Two rings that do the same, and one that does nothing to holes.
TWICE = Yard(4, both_ways([(2, 3)]), ((0, 1, 2), (0, 1, 2), (2, 3, 1)))
PLACED = ((LINE, (1, 2, 0, 0)), (LINE, (0, 0, 0, 0)), (LINE, (1, 1, 1, 1)), (SQUARE, (1, 2, 3, 0)),
          (SQUARE, (7, 7, 0, 0)),
          (THETA, (1, 1, 2, 2, 3, 0)), (GRID, (1, 0, 2, 0, 0, 2)), (WHEEL, (1, 2, 0, 0, 3)), (LIFT, (0, 5, 0, 6)),
          (RINGS, (1, 2, 3, 0, 0)), (RINGS, (1, 1, 2, 2, 3)), (BARE, (1, 2, 0)), (PARTS, (1, 0, 2, 0, 3)),
          (FALL, (1, 2, 0, 0)), (FALL, (0, 0, 1, 0)), (TWICE, (1, 2, 0, 0)), (TWICE, (1, 0, 0, 0)),
          (TWICE, (0, 0, 0, 0)))


def slow_layers(yard, stand):
    known = distances(yard, stand)
    return tuple(tuple(sorted(item for item in known if known[item] == far)) for far in range(max(known.values()) + 1))


def slow_counts(yard, stand):
    """For each stand how many least rows lead there: all rows of moves, one move more each time."""
    known = distances(yard, stand)
    counts = {stand: 1}
    rows = [stand]
    for far in range(1, max(known.values()) + 1):
        rows = [then for row in rows for _, then in stands_behind(yard, row) if known[then] == far]
        counts.update((then, rows.count(then)) for then in set(rows))
    return counts


LAYERS = [(yard, stand, slow_layers(yard, stand)) for yard, stand in PLACED]


class InterfaceTest(unittest.TestCase):
    def test_names_and_arguments(self):
        check_interface(self, least, {
            "layers": "yard stand most", "without_loops": "yard stand moves", "least_row": "yard one other most",
            "is_least_row": "yard one other told", "greatest": "yard stand most", "least_count": "yard one other most",
            "Least": "moves layers", "NoRow": "layers"})

    def test_papers(self):
        check_kept(self, Least, ["moves", "layers"])
        check_kept(self, NoRow, ["layers"])


class LayersTest(unittest.TestCase):
    def test_examples(self):
        self.assertEqual(layers(LINE, [7, 0, 9, 0], 6), (
            ((7, 0, 9, 0),), ((0, 7, 9, 0), (7, 0, 0, 9), (7, 9, 0, 0)), ((0, 7, 0, 9),), ((0, 0, 7, 9),)))
        self.assertEqual(greatest(LINE, [7, 0, 9, 0], 6), (3, ((0, 0, 7, 9),)))
        self.assertEqual(layers(BARE, (0, 0, 0), 1), (((0, 0, 0),),))
        self.assertEqual(greatest(BARE, (0, 5, 0), 1), (0, ((0, 5, 0),)))
        self.assertEqual(layers(TWICE, (1, 0, 0, 0), 9)[1:2], (((0, 1, 0, 0),),))

    def test_all(self):
        for yard, stand, rows in LAYERS:
            many = sum(map(len, rows))
            for most in (many, many + 1, 6000):
                told = layers(yard, stand, most)
                self.assertEqual(told, rows)
                self.assertTrue(tuples_alone(told))
                self.assertEqual(layers(yard, list(stand), most), rows)
                self.assertEqual(greatest(yard, list(stand), most), (len(rows) - 1, rows[-1]))
            for most in (many - 1, many // 2, 0):
                if most < many:
                    check_error(self, TooMany, {"most": most}, layers, yard, stand, most)
                    check_error(self, TooMany, {"most": most}, greatest, yard, stand, most)

    def test_fact_d(self):
        for yard, stand, rows in LAYERS:
            if yard is not FALL:
                self.assertEqual(count_of(yard, stand), sum(map(len, rows)))


class LoopsTest(unittest.TestCase):
    def test_examples(self):
        there, back = ("slide", 0, 1), ("slide", 1, 0)
        self.assertEqual(without_loops(LINE, (7, 0, 0, 0), (there, back, there)), (there,))
        self.assertEqual(without_loops(LINE, (7, 0, 0, 0), [there, ("slide", 1, 2), ("slide", 2, 1), back]), ())
        self.assertEqual(without_loops(LINE, [7, 0, 0, 0], [there, ("slide", 1, 2), ("slide", 2, 1)]), (there,))
        self.assertEqual(without_loops(LINE, (7, 0, 0, 0), ()), ())
        # A turn that does nothing leads back at once.
        turn = ("turn", 0)
        self.assertEqual(without_loops(RINGS, (1, 1, 1, 0, 0), (turn, turn)), ())
        # The first coming counts, not the longest loop: of 0 1 2 0 3 1 4 the moves from 0 to 0 are left out first.
        yard = Yard(5, ((0, 1), (1, 2), (2, 0), (0, 3), (3, 1), (1, 4)), ())
        moves = tuple(("slide", a, b) for a, b in ((0, 1), (1, 2), (2, 0), (0, 3), (3, 1), (1, 4)))
        self.assertEqual(without_loops(yard, (9, 0, 0, 0, 0), moves), moves[3:])

    def slow(self, yard, stand, moves):
        """Word by word as [51] says."""
        moves = list(moves)
        while True:
            stands = [tuple(played(yard, stand, moves[:many])) for many in range(len(moves) + 1)]
            twice = [item for item in stands if stands.count(item) > 1]
            if not twice:
                return tuple(moves)
            first = stands.index(twice[0])
            last = len(stands) - 1 - stands[::-1].index(twice[0])
            moves[first:last] = []

    def test_all(self):
        dice = random.Random(51)
        for yard, stand, _ in LAYERS:
            for many in (0, 1, 2, 5, 9, 14, 20):
                moves = random_moves(dice, yard, filled(stand), many)
                told = without_loops(yard, stand, moves)
                self.assertEqual(told, self.slow(yard, stand, moves))
                self.assertTrue(tuples_alone(told))
                self.assertEqual(without_loops(yard, list(stand), list(moves)), told)
                self.assertEqual(played(yard, stand, told), played(yard, stand, moves))
                stands = [played(yard, stand, told[:at]) for at in range(len(told) + 1)]
                self.assertEqual(len(set(stands)), len(stands))

    def test_errors(self):
        for stand in NO_STANDS:
            check_error(self, BadRow, {"row": stand}, without_loops, LINE, stand, (None,))
        good = (("slide", 0, 1), ("slide", 1, 0))
        for bad in (("slide", 1, 0), ("slide", 0, 2), ("turn", 0), ["slide", 0, 1], None, Odd(), ("slide", 0, True)):
            for moves in (good + (bad, None), list(good) + [bad]):
                check_error(self, BadMove, {"index": 2}, without_loops, LINE, (5, 0, 0, 0), moves)


class LeastRowTest(unittest.TestCase):
    def others(self, yard, stand, rows):
        """Stands that can be come to, and some that can't."""
        dice = random.Random(52)
        known = [item for row in rows for item in row]
        others = sorted(set(itertools.permutations(stand)) - set(known))
        return ([stand] + list(rows[-1])[:2] + dice.sample(known, min(len(known), 6))
                + dice.sample(others, min(len(others), 2)) + [tuple(thing and thing + 1 for thing in stand)])

    def test_examples(self):
        told = least_row(LINE, [7, 0, 0, 0], [0, 0, 7, 0], 2)
        self.assertEqual(told.moves, (("slide", 0, 1), ("slide", 1, 2)))
        self.assertEqual(told.layers, (((7, 0, 0, 0),), ((0, 7, 0, 0),)))
        check_error(self, TooMany, {"most": 1}, least_row, LINE, (7, 0, 0, 0), (0, 0, 7, 0), 1)
        told = least_row(LINE, (7, 9, 0, 0), [7, 9, 0, 0], 0)
        self.assertEqual((told.__class__, told.moves, told.layers), (Least, (), ()))
        told = least_row(BARE, (1, 0, 0), (0, 1, 0), 1)
        self.assertEqual((told.__class__, told.layers), (NoRow, (((1, 0, 0),),)))
        check_error(self, TooMany, {"most": 0}, least_row, BARE, (1, 0, 0), (0, 1, 0), 0)

    def test_all(self):
        for yard, stand, rows in LAYERS:
            known = distances(yard, stand)
            counts = slow_counts(yard, stand)
            for other in self.others(yard, stand, rows):
                ahead = rows[:known[other]] if other in known else rows
                many = sum(map(len, ahead))
                told = least_row(yard, stand, other, many)
                self.assertEqual(told.layers, ahead)
                self.assertTrue(tuples_alone(told.layers))
                self.assertIs(is_least_row(yard, stand, other, told), True)
                self.assertIs(is_least_row(yard, list(stand), list(other), told), True)
                self.assertEqual(least_count(yard, list(stand), list(other), many), counts.get(other, 0))
                if other in known:
                    self.assertIsInstance(told, Least)
                    self.assertEqual(len(told.moves), known[other])
                    self.assertEqual(played(yard, stand, told.moves), other)
                    self.assertTrue(tuples_alone(told.moves))
                else:
                    self.assertIsInstance(told, NoRow)
                if many:
                    check_error(self, TooMany, {"most": many - 1}, least_row, yard, stand, other, many - 1)
                    check_error(self, TooMany, {"most": many - 1}, least_count, yard, stand, other, many - 1)
                    check_error(self, TooMany, {"most": 0}, least_row, yard, stand, other, 0)

    def test_counts(self):
        # From 0 to 1 by two rings, from 1 to 2 by three; from 2 to 3 by a ring and a tie.
        self.assertEqual(least_count(TWICE, (1, 0, 0, 0), (0, 1, 0, 0), 100), 2)
        self.assertEqual(least_count(TWICE, (1, 0, 0, 0), (0, 0, 1, 0), 100), 6)
        self.assertEqual(least_count(TWICE, (0, 0, 1, 0), (0, 0, 0, 1), 100), 2)
        self.assertEqual(least_count(TWICE, (0, 0, 0, 0), (0, 0, 0, 0), 0), 1)

    def test_fact_e(self):
        for yard, stand, rows in LAYERS:
            known = distances(yard, stand)
            for other in self.others(yard, stand, rows):
                if other in known and other != stand:
                    parts = [least_count(yard, stand, ahead, 6000) for ahead in known
                             for _, then in stands_behind(yard, ahead)
                             if then == other and known[ahead] == known[other] - 1]
                    self.assertEqual(least_count(yard, stand, other, 6000), sum(parts))

    def test_any_values(self):
        for yard, stand, rows in LAYERS[::4]:
            for other in (stand, rows[-1][0], rows[len(rows) // 2][0]):
                for value in NO_ROWS + ((Odd(),), ((),), ((Odd(),),), ((stand, Odd()),), (5,), ("",)):
                    for told in (value, Least(value, value), NoRow(value), Least((), value), Least(value, ())):
                        self.assertIs(is_least_row(yard, stand, other, told), False, repr(told))
                self.assertIs(is_least_row(yard, stand, other, Least((), ())), stand == other)
                self.assertIs(is_least_row(yard, stand, other, NoRow(())), False)

    def test_all_layers_and_other_stands(self):
        for yard, stand, rows in LAYERS:
            known = distances(yard, stand)
            for other in self.others(yard, stand, rows):
                for far in range(len(rows) + 1):
                    is_right = other not in known and far == len(rows)
                    self.assertIs(is_least_row(yard, stand, other, NoRow(rows[:far])), is_right)
                    self.assertIs(is_least_row(yard, list(stand), list(other), NoRow(rows[:far])), is_right)
                    moves = least_row(yard, stand, other, 6000).moves if other in known else ()
                    is_right = other in known and far == known[other]
                    self.assertIs(is_least_row(yard, stand, other, Least(moves, rows[:far])), is_right)
                    self.assertIs(is_least_row(yard, list(stand), list(other), Least(moves, rows[:far])), is_right)
                self.assertIs(is_least_row(yard, stand, other, NoRow(rows + ((),))), False)

    def test_one_thing_changed(self):
        for yard, stand, rows in LAYERS:
            other = rows[-1][-1]
            told = least_row(yard, stand, other, 6000)
            moves, ahead = told.moves, told.layers
            for wrong in (moves + (moves[-1:] or (None,)), moves[:-1] + (None,) if moves else (None,),
                          moves + (("slide", 0, 0),), moves[1:] if moves else (("turn", 9),),
                          tuple(list(move) for move in moves) + ([],), None, Odd()):
                self.assertIs(is_least_row(yard, stand, other, Least(wrong, ahead)), False, wrong)
            self.assertIs(is_least_row(yard, stand, other, Least(list(moves), list(ahead))), True)
            for number, row in enumerate(ahead):
                for changed in (row[:-1], row + row[-1:], row[::-1] if len(row) > 1 else (), list(row), row + (other,),
                                tuple(list(item) for item in row), tuple(map(float, row[0])), (), None, Odd(),
                                (tuple(map(float, row[0])),) + row[1:]):
                    self.assertIs(is_least_row(yard, stand, other,
                                               Least(moves, ahead[:number] + (changed,) + ahead[number + 1:])), False)
            far = tuple(thing and thing + 1 for thing in stand)
            if any(stand):
                for number, row in enumerate(rows):
                    for changed in (row[:-1], row + row[-1:], (), list(row), row + (far,)):
                        paper = NoRow(rows[:number] + (changed,) + rows[number + 1:])
                        self.assertIs(is_least_row(yard, stand, far, paper), False)
        # True is equal to the thing 1, but no integer.
        self.assertIs(is_least_row(BARE, (1, 0, 0), (0, 1, 0), NoRow((((1, 0, 0),),))), True)
        self.assertIs(is_least_row(BARE, (1, 0, 0), (0, 1, 0), NoRow((((True, 0, 0),),))), False)

    def test_longer_rows(self):
        # Rows that lead there, but are not the shortest.
        moves = (("slide", 0, 1), ("slide", 1, 0), ("slide", 0, 1))
        rows = layers(LINE, (7, 0, 0, 0), 9)
        for far in range(4):
            self.assertIs(is_least_row(LINE, (7, 0, 0, 0), (0, 7, 0, 0), Least(moves, rows[:far])), False)
        # Another least row than the one that least_row tells.
        rows = layers(SQUARE, (7, 0, 0, 0), 9)
        for moves in ((("slide", 0, 1), ("slide", 1, 2)), (("slide", 0, 3), ("slide", 3, 2))):
            self.assertIs(is_least_row(SQUARE, (7, 0, 0, 0), (0, 0, 7, 0), Least(moves, rows[:2])), True)

    def test_arguments_stay(self):
        one, other, moves = [7, 0, 0, 0], [0, 0, 7, 0], [("slide", 0, 1), ("slide", 1, 0)]
        least_row(LINE, one, other, 9), layers(LINE, one, 9), least_count(LINE, one, other, 9)
        without_loops(LINE, one, moves)
        self.assertEqual((one, other, moves), ([7, 0, 0, 0], [0, 0, 7, 0], [("slide", 0, 1), ("slide", 1, 0)]))


class SizesTest(unittest.TestCase):
    def test_six_thousand_stands(self):
        dice = random.Random(54)
        pairs = [(a, b) for a in range(9) for b in range(9) if a != b]
        many_ties = Yard(9, dice.sample(pairs, 60), [dice.sample(range(9), length) for length in (3, 4, 5, 6, 9, 9)])
        loop = Yard(9, tuple((i, (i + 1) % 9) for i in range(9)) + ((0, 2),), ())
        few, more = (1, 2, 3, 4, 0, 0, 0, 0, 0), (1, 1, 1, 2, 2, 2, 3, 3, 0)
        for yard, stand, many in ((many_ties, few, 3024), (loop, few, 3024), (loop, more, 5040),
                                  (many_ties, more, 5040)):
            check_error(self, TooMany, {"most": many - 1}, layers, yard, stand, many - 1)
            rows = layers(yard, stand, 6000)
            self.assertEqual(sum(map(len, rows)), many)
            other = rows[-1][0]
            told = least_row(yard, stand, other, 6000)
            self.assertIs(is_least_row(yard, stand, other, told), True)
            self.assertGreater(least_count(yard, stand, other, 6000), 0)

    def test_many_moves(self):
        dice = random.Random(55)
        moves = random_moves(dice, RINGS, (0, 1, 2), 400)
        told = without_loops(RINGS, (1, 2, 3, 0, 0), moves)
        self.assertEqual(played(RINGS, (1, 2, 3, 0, 0), told), played(RINGS, (1, 2, 3, 0, 0), moves))


if __name__ == "__main__":
    unittest.main()
