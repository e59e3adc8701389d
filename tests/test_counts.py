"""Points [42] and [43] of DOC.md, and what [2] says of them."""

import math
import random
import unittest

from samples import (BARE, FALL, GRID, LIFT, LINE, NO_ROWS, NO_STANDS, PARTS, RINGS, SQUARE, THETA, WHEEL, Odd,
                     check_error, check_interface, check_kept, distances, other_outs, stand_with)
from slideyards import counts
from slideyards.chains import Chain, chain_of, is_chain, size_of
from slideyards.counts import Counted, can_all, count_of, counted, is_counted
from slideyards.errors import BadRow, BadTie
from slideyards.joining import Barred
from slideyards.lots import Outs, are_outs, lot_of
from slideyards.rounds import given_of, rounds_of
from slideyards.yards import Yard, filled

NAMED = ((LINE, (0, 1), (5, 7)), (LINE, (), ()), (LINE, (0, 1, 2, 3), (4, 3, 2, 1)), (SQUARE, (0, 1, 3), (9, 5, 7)),
         (SQUARE, (1, 2), (3, 99)), (THETA, (1, 2, 3, 4, 5), (5, 4, 3, 2, 1)), (THETA, (0, 4, 5), (1, 2, 3)),
         (GRID, (0, 1, 2, 3, 4), (1, 2, 3, 4, 5)), (GRID, (0, 5), (1, 2)), (WHEEL, (1, 2, 3, 4), (4, 1, 2, 3)),
         (WHEEL, (1,), (1,)), (LIFT, (0, 2), (1, 2)), (LIFT, (0, 2, 3), (1, 2, 3)), (RINGS, (0, 1, 4), (1, 3, 2)),
         (RINGS, (0, 1, 2, 3, 4), (1, 2, 3, 4, 5)), (BARE, (1, 2), (6, 7)), (BARE, (), ()),
         (PARTS, (0, 2, 4), (1, 3, 2)))
UNNAMED = ((LINE, (0, 1), (5, 5)), (LINE, (0, 1, 3), (1, 1, 2)), (SQUARE, (0, 1, 3), (1, 1, 2)),
           (SQUARE, (1, 2), (3, 3)),
           (SQUARE, (0, 1, 2, 3), (3, 3, 1, 1)), (THETA, (1, 2, 3, 4, 5), (1, 1, 2, 2, 3)),
           (GRID, (0, 1, 2, 3, 4), (1, 2, 3, 4, 4)),
           (WHEEL, (1, 2, 3, 4), (1, 1, 2, 2)), (LIFT, (0, 2, 3), (1, 2, 2)), (RINGS, (0, 1, 4), (1, 1, 2)),
           (RINGS, (0, 1, 2, 3, 4), (1, 1, 1, 2, 3)), (BARE, (1, 2), (6, 6)), (PARTS, (0, 2, 4), (1, 3, 3)))


class InterfaceTest(unittest.TestCase):
    def test_names_and_arguments(self):
        check_interface(self, counts, {
            "count_of": "yard stand", "counted": "yard stand", "is_counted": "yard stand told",
            "can_all": "yard stand", "Counted": "number outs chain"})

    def test_counted(self):
        check_kept(self, Counted, ["number", "outs", "chain"])


class CountTest(unittest.TestCase):
    def test_examples(self):
        self.assertEqual(count_of(LINE, (1, 2, 0, 0)), 6)
        self.assertEqual(count_of(SQUARE, [1, 2, 3, 0]), 12)
        self.assertEqual(count_of(SQUARE, (1, 1, 3, 0)), 12)
        self.assertEqual(count_of(SQUARE, [1, 1, 1, 0]), 4)
        self.assertEqual(count_of(BARE, (0, 0, 0)), 1)
        self.assertEqual(count_of(BARE, (5, 5, 5)), 1)

    def test_all(self):
        dice = random.Random(42)
        for yard, row, things in NAMED + UNNAMED:
            for begin in {row, dice.choice(lot_of(yard, row))}:
                stand = stand_with(yard, begin, things)
                number = count_of(yard, list(stand))
                self.assertEqual(number, len(distances(yard, stand)))
                self.assertIs(type(number), int)

    def test_counted(self):
        dice = random.Random(43)
        for yard, row, things in NAMED:
            stand = stand_with(yard, dice.choice(lot_of(yard, row)), things)
            told = counted(yard, stand)
            self.assertIsInstance(told, Counted)
            self.assertEqual(told.number, len(distances(yard, stand)))
            self.assertTrue(are_outs(yard, filled(stand), told.outs))
            self.assertTrue(is_chain(len(row), given_of(rounds_of(yard, told.outs)), told.chain))
            self.assertEqual(told.number, len(told.outs.rows) * size_of(told.chain))
            self.assertIs(is_counted(yard, stand, told), True)
            self.assertIs(is_counted(yard, list(stand), told), True)

    def test_can_all(self):
        self.assertIs(can_all(LINE, (1, 2, 0, 0)), False)
        self.assertIs(can_all(LINE, (1, 0, 0, 0)), True)
        self.assertIs(can_all(BARE, (0, 0, 0)), True)
        for yard, row, things in NAMED:
            stand = stand_with(yard, row, things)
            ways = math.factorial(len(row)) * len(lot_of(yard, row))
            self.assertIs(can_all(yard, list(stand)), len(distances(yard, stand)) == ways)

    def test_errors(self):
        for stand in NO_STANDS:
            check_error(self, BadRow, {"row": stand}, count_of, LINE, stand)
        for stand in NO_STANDS + ((1, 1, 0, 0), [2, 0, 1, 2]):
            for yard in (LINE, FALL):
                check_error(self, BadRow, {"row": stand}, counted, yard, stand)
                check_error(self, BadRow, {"row": stand}, can_all, yard, stand)
                for told in (None, Counted(1, 2, 3)):
                    check_error(self, BadRow, {"row": stand}, is_counted, yard, stand, told)
        for stand in ((1, 0, 2, 0), [1, 2, 0, 0]):
            check_error(self, BadTie, {"tie": (0, 1)}, count_of, FALL, stand)
            check_error(self, BadTie, {"tie": (0, 1)}, counted, FALL, stand)
            check_error(self, BadTie, {"tie": (0, 1)}, can_all, FALL, stand)
            for told in (None, Odd(), Counted(1, 2, 3)):
                check_error(self, BadTie, {"tie": (0, 1)}, is_counted, FALL, stand, told)
        check_error(self, BadTie, {"tie": (0, 1)}, count_of, FALL, (1, 1, 0, 0))
        self.assertEqual(count_of(FALL, (0, 0, 1, 1)), 1)


class IsCountedTest(unittest.TestCase):
    def test_any_values(self):
        values = NO_ROWS + ((), (Odd(),), 12, -1)
        for yard, row, things in NAMED[::3]:
            stand = stand_with(yard, row, things)
            for value in values:
                for told in (value, Counted(value, value, value), Barred(value, value, value)):
                    self.assertIs(is_counted(yard, stand, told), False, repr(told))

    def test_one_thing_changed(self):
        for yard, row, things in NAMED:
            stand = stand_with(yard, row, things)
            told = counted(yard, stand)
            number, outs, chain = told.number, told.outs, told.chain
            for item in (number + 1, number - 1, 0, -number, str(number), float(number), None, Odd(), [number], True,
                         number == 1):
                self.assertIs(is_counted(yard, stand, Counted(item, outs, chain)), False, repr(item))
            for item in (None, Odd(), (outs.home, outs.rows, outs.ways), chain,
                         Outs(outs.home, outs.rows[:-1], outs.ways[:-1]),
                         Outs(outs.home, outs.rows, outs.ways[:-1] + ((("slide", 0, 0),),))):
                self.assertIs(is_counted(yard, stand, Counted(number, item, chain)), False)
            for item in (None, Odd(), (chain.lines, chain.levels), outs,
                         Chain(chain.lines, chain.levels + (((0, None),),)), Chain(chain.lines + (5,), chain.levels),
                         Chain(chain.lines, [list(level) for level in chain.levels] + [1])):
                self.assertIs(is_counted(yard, stand, Counted(number, outs, item)), False)
            if size_of(chain) > 1:
                least = Chain((), [((level, None),) for level in range(len(row))])
                self.assertIs(is_counted(yard, stand, Counted(len(outs.rows), outs, least)), False)

    def test_other_papers(self):
        dice = random.Random(44)
        for yard, row, things in NAMED:
            stand = stand_with(yard, row, things)
            outs = other_outs(dice, yard, row)
            chain = chain_of(len(row), given_of(rounds_of(yard, outs)))
            self.assertIs(is_counted(yard, stand, Counted(len(distances(yard, stand)), outs, chain)), True)


class SizesTest(unittest.TestCase):
    def test_nine_places(self):
        dice = random.Random(45)
        pairs = [(a, b) for a in range(9) for b in range(9) if a != b]
        yard = Yard(9, dice.sample(pairs, 60), [dice.sample(range(9), length) for length in (3, 4, 5, 6, 9, 9)])
        for many in range(10):
            if not 3 < many < 6:
                stand = tuple(range(1, many + 1)) + (0,) * (9 - many)
                told = counted(yard, stand)
                self.assertIs(is_counted(yard, stand, told), True)
                self.assertEqual(told.number, math.perm(9, many))
                self.assertIs(can_all(yard, stand), True)
        self.assertEqual(count_of(yard, (1, 1, 2, 2, 3, 3, 4, 4, 0)), 22680)
        self.assertEqual(count_of(yard, (1, 2, 3, 4, 5, 6, 6, 0, 0)), 90720)
        self.assertEqual(count_of(yard, (1, 1, 1, 2, 2, 2, 3, 3, 3)), 1680)


if __name__ == "__main__":
    unittest.main()
