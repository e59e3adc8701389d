"""Points [55] to [57] of DOC.md, and what [2] says of them."""

import random
import unittest

from samples import (BARE, FALL, GRID, LIFT, LINE, NO_COUNTS, PARTS, RINGS, SQUARE, THETA, WHEEL, Odd, check_error,
                     check_interface, distances, stands_behind, tuples_alone)
from slideyards import made
from slideyards.errors import BadNumber, TooMany
from slideyards.least import layers, least_count, least_row
from slideyards.made import clear_row, clear_stands, hardest, made_stand, turned_about
from slideyards.yards import Yard, both_ways, played

# Two rings that do the same, so all that they do has several rows.
TWICE = Yard(4, both_ways([(2, 3)]), ((0, 1, 2), (0, 1, 2), (2, 3, 1)))
GOALS = ((LINE, (1, 2, 0, 0)), (LINE, (0, 0, 0, 0)), (SQUARE, (1, 2, 3, 0)), (SQUARE, (7, 7, 0, 0)), (BARE, (1, 2, 0)),
         (THETA, (1, 1, 2, 2, 3, 0)), (GRID, (1, 0, 2, 0, 0, 2)), (WHEEL, (1, 2, 0, 0, 3)), (LIFT, (0, 5, 0, 6)),
         (RINGS, (1, 2, 3, 0, 0)), (RINGS, (1, 1, 2, 2, 3)), (PARTS, (1, 0, 2, 0, 3)), (FALL, (1, 2, 0, 0)),
         (FALL, (0, 0, 1, 2)), (FALL, (0, 1, 0, 1)), (TWICE, (1, 2, 0, 0)), (TWICE, (0, 0, 5, 0)))


def slow_distances(yard, goal):
    """For each stand with the same things from which moves lead to the goal, the least number of moves.

    All stands that hold each other's things are looked at, by moves made forward alone.
    """
    known = {goal: 0}
    things = sorted(goal)
    stands = [stand for stand in all_orders(things)]
    is_done = False
    while not is_done:
        is_done = True
        for stand in stands:
            for _, behind in stands_behind(yard, stand):
                if behind in known and known[behind] + 1 < known.get(stand, 10 ** 9):
                    known[stand] = known[behind] + 1
                    is_done = False
    return known


def all_orders(things):
    """All unlike rows of these things."""
    if not things:
        return [()]
    return [(first,) + rest for first in sorted(set(things))
            for rest in all_orders(things[:things.index(first)] + things[things.index(first) + 1:])]


def slow_counts(yard, known):
    """How many least rows lead from each stand to the goal."""
    counts = {}
    for stand in sorted(known, key=known.get):
        counts[stand] = sum(counts[behind] for _, behind in stands_behind(yard, stand)
                            if known.get(behind) == known[stand] - 1) if known[stand] else 1
    return counts


def cases():
    for yard, goal in GOALS:
        known = slow_distances(yard, goal)
        counts = slow_counts(yard, known)
        rows = tuple(tuple(sorted(stand for stand in known if known[stand] == far and counts[stand] == 1))
                     for far in range(max(known.values()) + 1))
        yield yard, goal, known, rows


CASES = list(cases())


class InterfaceTest(unittest.TestCase):
    def test_names_and_arguments(self):
        check_interface(self, made, {
            "turned_about": "yard", "clear_stands": "yard goal most", "clear_row": "yard goal stand most",
            "made_stand": "yard goal far number most", "hardest": "yard goal most"})


class TurnedTest(unittest.TestCase):
    def test_example(self):
        yard = Yard(5, ((3, 4), (0, 1), (4, 0)), ((0, 2, 1), (4, 3, 2, 1, 0)))
        told = turned_about(yard)
        self.assertEqual(told.ties, ((0, 4), (1, 0), (4, 3)))
        self.assertEqual(told.rings, ((0, 1, 2), (4, 0, 1, 2, 3)))
        self.assertTrue(turned_about(told) == yard)
        self.assertTrue(turned_about(BARE) == BARE)

    def test_fact_a(self):
        for yard, goal, known, _ in CASES:
            about = turned_about(yard)
            for stand in known:
                for _, behind in stands_behind(yard, stand):
                    self.assertIn(stand, [then for _, then in stands_behind(about, behind)])
                for _, behind in stands_behind(about, stand):
                    self.assertIn(stand, [then for _, then in stands_behind(yard, behind)])
            rows = layers(about, goal, 6000)
            self.assertEqual({stand: far for far, row in enumerate(rows) for stand in row}, known)


class ClearTest(unittest.TestCase):
    def test_examples(self):
        self.assertEqual(clear_stands(LINE, (7, 0, 0, 0), 4),
                         (((7, 0, 0, 0),), ((0, 7, 0, 0),), ((0, 0, 7, 0),), ((0, 0, 0, 7),)))
        # Two ways lead round to the other corner.
        self.assertEqual(clear_stands(SQUARE, [7, 0, 0, 0], 4), (((7, 0, 0, 0),), ((0, 0, 0, 7), (0, 7, 0, 0)), ()))
        self.assertEqual(clear_row(SQUARE, (7, 0, 0, 0), [0, 7, 0, 0], 4), (("slide", 1, 0),))
        self.assertIsNone(clear_row(SQUARE, [7, 0, 0, 0], (0, 0, 7, 0), 4))
        self.assertEqual(clear_row(SQUARE, [7, 0, 0, 0], [7, 0, 0, 0], 4), ())
        # To the goal alone: from the place 0 nothing comes back.
        self.assertEqual(clear_stands(FALL, (0, 1, 0, 0), 9), (((0, 1, 0, 0),), ((1, 0, 0, 0),)))
        self.assertEqual(clear_stands(FALL, (1, 0, 0, 0), 1), (((1, 0, 0, 0),),))
        self.assertIsNone(clear_row(FALL, (1, 0, 0, 0), (0, 1, 0, 0), 1))

    def test_all(self):
        seen = set()
        for yard, goal, known, rows in CASES:
            for most in (len(known), 6000):
                told = clear_stands(yard, list(goal), most)
                self.assertEqual(told, rows)
                self.assertTrue(tuples_alone(told))
            seen.update(bool(row) for row in told)
            check_error(self, TooMany, {"most": len(known) - 1}, clear_stands, yard, goal, len(known) - 1)
            check_error(self, TooMany, {"most": 0}, clear_stands, yard, goal, 0)
        self.assertEqual(seen, {True, False})

    def test_clear_by_least_count(self):
        for yard, goal, known, rows in CASES:
            clear = [stand for row in rows for stand in row]
            for stand in list(known)[::7]:
                self.assertEqual(least_count(yard, stand, goal, 6000) == 1, stand in clear)

    def test_rows(self):
        dice = random.Random(55)
        for yard, goal, known, rows in CASES:
            clear = [stand for row in rows for stand in row]
            for stand in dice.sample(sorted(known), min(len(known), 20)) + [goal]:
                told = clear_row(yard, list(goal), list(stand), len(known))
                if stand in clear:
                    self.assertTrue(tuples_alone(told))
                    self.assertEqual(len(told), known[stand])
                    self.assertEqual(played(yard, stand, told), goal)
                    self.assertEqual(least_row(yard, stand, goal, 6000).moves, told)
                    # Fact B.
                    for at in range(len(told)):
                        self.assertIn(played(yard, stand, told[:at]), clear)
                else:
                    self.assertIsNone(told)
                check_error(self, TooMany, {"most": len(known) - 1}, clear_row, yard, goal, stand, len(known) - 1)
            other = tuple(thing and thing + 1 for thing in goal)
            if any(goal):
                self.assertIsNone(clear_row(yard, goal, other, len(known)))
            for stand in distances(yard, goal):
                if stand not in known:
                    self.assertIsNone(clear_row(yard, goal, stand, len(known)))


class MadeTest(unittest.TestCase):
    def test_all(self):
        for yard, goal, known, rows in CASES:
            for far, row in enumerate(rows):
                for number, stand in enumerate(row):
                    self.assertEqual(made_stand(yard, list(goal), far, number, len(known)), stand)
                numbers = (len(row), len(row) + 1) + NO_COUNTS
                for number in numbers:
                    fields = {"what": "number", "number": number} if row else {"what": "moves", "number": far}
                    check_error(self, BadNumber, fields, made_stand, yard, goal, far, number, len(known))
            full = [far for far, row in enumerate(rows) if row]
            self.assertEqual(full, list(range(len(full))))
            self.assertEqual(hardest(yard, list(goal), len(known)), (len(full) - 1, rows[len(full) - 1]))

    def test_distances_that_are_none(self):
        for yard, goal, known, rows in CASES[::3]:
            for far in (len(rows), len(rows) + 1) + NO_COUNTS:
                for number in (0, None, -1):
                    check_error(self, BadNumber, {"what": "moves", "number": far}, made_stand, yard, goal, far, number,
                                len(known))
        check_error(self, BadNumber, {"what": "moves", "number": 2}, made_stand, SQUARE, (7, 0, 0, 0), 2, 0, 4)

    def test_too_many(self):
        for yard, goal, known, _ in CASES:
            for most in (len(known) - 1, 0):
                check_error(self, TooMany, {"most": most}, hardest, yard, goal, most)
                for far, number in ((0, 0), (None, None), (0, Odd()), (-1, 0)):
                    check_error(self, TooMany, {"most": most}, made_stand, yard, goal, far, number, most)


class SizesTest(unittest.TestCase):
    def test_six_thousand_stands(self):
        dice = random.Random(57)
        pairs = [(a, b) for a in range(9) for b in range(9) if a != b]
        many_ties = Yard(9, dice.sample(pairs, 60), [dice.sample(range(9), length) for length in (3, 4, 5, 6, 9, 9)])
        loop = Yard(9, tuple((i, (i + 1) % 9) for i in range(9)) + ((0, 2),), ())
        for yard in (many_ties, loop):
            for goal, many in (((1, 2, 3, 4, 0, 0, 0, 0, 0), 3024), ((1, 1, 1, 2, 2, 2, 3, 3, 0), 5040)):
                far, row = hardest(yard, goal, many)
                self.assertEqual(made_stand(yard, goal, far, len(row) - 1, 6000), row[-1])
                moves = clear_row(yard, goal, row[0], 6000)
                self.assertEqual(len(moves), far)
                self.assertEqual(played(yard, row[0], moves), goal)
                check_error(self, TooMany, {"most": many - 1}, hardest, yard, goal, many - 1)


if __name__ == "__main__":
    unittest.main()
