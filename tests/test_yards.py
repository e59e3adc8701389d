"""Points [8] to [13] of DOC.md, and what [2] says of them."""

import inspect
import itertools
import random
import unittest

from samples import NO_FILLED_ROWS, NO_ROWS, Odd, random_moves, tuples_alone
from slideyards import yards
from slideyards.errors import BadMove, BadNumber, BadRing, BadRow, BadTie
from slideyards.yards import (Yard, both_ways, filled, is_named, is_stand, led, moves_at, played,
                              taken_back, things_of)

# A square with a diagonal one way, a tail, and two rings that have a place in common.
SQUARE = Yard(6, both_ways([(0, 1), (1, 2), (2, 3), (3, 0), (3, 4)]) + ((0, 2), (5, 4)),
              ((0, 1, 2, 3), (4, 5, 3)))
LINE = Yard(4, both_ways([(0, 1), (1, 2), (2, 3)]), ())
RINGS = Yard(5, (), ((0, 1, 2), (2, 3, 4, 0)))
BARE = Yard(1, (), ())
YARDS = (SQUARE, LINE, RINGS, BARE, Yard(3, ((0, 1), (1, 2), (2, 0)), ((2, 0, 1),)))


def random_stand(dice, yard):
    return tuple(dice.choice((0, 0, 1, 2, 7, 150)) for _ in range(yard.places))


def cases():
    """Yards, stands of them, and rows of moves that can be made there."""
    dice = random.Random(8)
    for yard in YARDS:
        for _ in range(60):
            stand = random_stand(dice, yard)
            yield yard, stand, random_moves(dice, yard, filled(stand), dice.randrange(12))


class InterfaceTest(unittest.TestCase):
    def test_names_and_arguments(self):
        wanted = {
            Yard.__init__: ["self", "places", "ties", "rings"],
            both_ways: ["pairs"],
            is_stand: ["yard", "value"],
            filled: ["stand"],
            things_of: ["stand"],
            is_named: ["stand"],
            moves_at: ["yard", "row"],
            played: ["yard", "stand", "moves"],
            led: ["yard", "row", "moves"],
            taken_back: ["yard", "moves"],
        }
        for function, names in wanted.items():
            self.assertEqual(list(inspect.signature(function).parameters), names)
            self.assertEqual(function.__module__, yards.__name__)
        self.assertIn("__eq__", vars(Yard))
        self.assertIn("__init__", vars(Yard))


class YardTest(unittest.TestCase):
    def test_attributes(self):
        yard = Yard(4, ((2, 1), (0, 3), (1, 2), (0, 1)), ((3, 1, 0), (0, 1, 2, 3)))
        self.assertEqual(yard.places, 4)
        self.assertEqual(yard.ties, ((0, 1), (0, 3), (1, 2), (2, 1)))
        self.assertEqual(yard.rings, ((3, 1, 0), (0, 1, 2, 3)))

    def test_ties_ascend_as_numbers(self):
        self.assertEqual(Yard(12, ((10, 2), (2, 10), (2, 9)), ()).ties, ((2, 9), (2, 10), (10, 2)))

    def test_lists_are_copied_as_tuples(self):
        for ties in ([[1, 0], [0, 1]], ([1, 0], [0, 1]), [(1, 0), (0, 1)], [[1, 0], (0, 1)]):
            for rings in ([[0, 1, 2]], ([0, 1, 2],), [(0, 1, 2)]):
                yard = Yard(3, ties, rings)
                self.assertEqual((yard.ties, yard.rings), (((0, 1), (1, 0)), ((0, 1, 2),)))
                self.assertTrue(tuples_alone(yard.ties) and tuples_alone(yard.rings))

    def test_arguments_stay(self):
        ties, rings = [[1, 0], [0, 1]], [[2, 1, 0]]
        yard = Yard(3, ties, rings)
        self.assertEqual((ties, rings), ([[1, 0], [0, 1]], [[2, 1, 0]]))
        ties[0][0], rings[0][0] = 2, 1
        ties.append([2, 0])
        rings.clear()
        self.assertEqual((yard.ties, yard.rings), (((0, 1), (1, 0)), ((2, 1, 0),)))

    def test_equal(self):
        ties, rings = ((0, 1), (1, 2)), ((0, 1, 2), (2, 1, 0))
        yard = Yard(3, ties, rings)
        self.assertTrue(yard == yard)
        self.assertTrue(yard == Yard(3, [[1, 2], [0, 1]], [[0, 1, 2], [2, 1, 0]]))
        self.assertFalse(yard != Yard(3, ties, rings))
        for other in (Yard(4, ties, rings), Yard(3, ties[:1], rings), Yard(3, ties, rings[::-1]),
                      Yard(3, ties, ((1, 2, 0), (2, 1, 0))), Yard(3, ties, ())):
            self.assertFalse(yard == other)
            self.assertTrue(yard != other)

    def test_equal_to_its_own_class_alone(self):
        class Like:
            places, ties, rings = 1, (), ()

        for other in (Like(), None, 1, (1, (), ()), "Yard", Odd()):
            self.assertFalse(BARE == other)

    def test_rings_may_be_alike(self):
        self.assertEqual(Yard(3, (), ((0, 1, 2), (0, 1, 2))).rings, ((0, 1, 2), (0, 1, 2)))

    def test_bad_places(self):
        for places in (0, -1, True, False, None, "1", 1.0, [1], (1,), Odd()):
            with self.assertRaises(BadNumber) as caught:
                Yard(places, None, None)
            self.assertEqual(caught.exception.what, "places")
            self.assertIs(caught.exception.number, places)

    def test_bad_ties_row(self):
        for ties in NO_ROWS:
            with self.assertRaises(BadRow) as caught:
                Yard(3, ties, None)
            self.assertIs(caught.exception.row, ties)

    def test_bad_tie(self):
        bad = [(0, 0), (0, 3), (3, 0), (-1, 0), (0,), (0, 1, 2), (), [2, 2], (True, 0), (1, False),
               (0, "1"), (0, 1.0), (0, None), (0, [1]), ([0], 1), ({}, 1), (0, Odd())]
        for tie in bad + list(NO_ROWS):
            with self.assertRaises(BadTie) as caught:
                Yard(3, [(2, 1), tie, (0, 0), (1, 1)], None)
            self.assertIs(caught.exception.tie, tie)

    def test_tie_that_stands_ahead(self):
        for tie in ((2, 1), [2, 1]):
            with self.assertRaises(BadTie) as caught:
                Yard(3, ((2, 1), (1, 2), tie, (5, 5)), ())
            self.assertIs(caught.exception.tie, tie)

    def test_bad_rings_row(self):
        for rings in NO_ROWS:
            with self.assertRaises(BadRow) as caught:
                Yard(3, ((0, 1),), rings)
            self.assertIs(caught.exception.row, rings)

    def test_bad_ring(self):
        bad = [(), (0,), (0, 1), (0, 1, 0), (0, 1, 2, 0), (0, 1, 4), (-1, 0, 1), (True, 0, 2),
               (0, 1, 2.0), (0, 1, "2"), (0, 1, [2]), [3, 3, 3], (0, 1, Odd())]
        for ring in bad + list(NO_ROWS):
            with self.assertRaises(BadRing) as caught:
                Yard(4, (), [(0, 1, 2), [3, 2, 1], ring, ()])
            self.assertEqual(caught.exception.index, 2)

    def test_order_of_errors(self):
        self.assertRaises(BadRow, Yard, 2, 5, ((0,),))
        self.assertRaises(BadTie, Yard, 2, ((0, 0),), 5)
        self.assertRaises(BadTie, Yard, 2, ((0, 0),), ((0,),))

    def test_both_ways(self):
        self.assertEqual(both_ways(()), ())
        self.assertEqual(both_ways([[3, 1], (0, 2), (1, 3)]), ((0, 2), (1, 3), (2, 0), (3, 1)))
        self.assertEqual(both_ways(((10, 9), (2, 10))), ((2, 10), (9, 10), (10, 2), (10, 9)))
        self.assertTrue(tuples_alone(both_ways([[0, 1]])))


class StandTest(unittest.TestCase):
    def test_stands(self):
        for value in ((0, 0, 0, 0), (1, 2, 3, 4), (7, 7, 0, 1000)):
            self.assertIs(is_stand(LINE, value), True)

    def test_no_stands(self):
        bad = ((), (0,) * 3, (0,) * 5, [0] * 4, (0, 0, 0, -1), (0, 0, 0, True), (False, 1, 2, 3),
               (0, 0, 0, "0"), (0, 0, 0, 0.0), (0, 0, 0, None), (0, 0, 0, [1]), (0, 0, 0, Odd()))
        for value in bad + NO_ROWS:
            self.assertIs(is_stand(LINE, value), False, value)

    def test_filled_and_things(self):
        self.assertEqual(filled((0, 5, 0, 2, 5)), (1, 3, 4))
        self.assertEqual(filled([0, 0]), ())
        self.assertEqual(things_of((0, 10, 0, 9, 10)), (9, 10, 10))
        self.assertEqual(things_of([0, 0]), ())
        self.assertEqual(things_of([3, 1]), (1, 3))

    def test_named(self):
        for stand in ((0, 0, 0), (1, 0, 2), [3]):
            self.assertIs(is_named(stand), True)
        for stand in ((1, 0, 1), (2, 2), [3, 1, 3]):
            self.assertIs(is_named(stand), False)


NO_MOVES = (("slide", 0, 2), ("slide", 0, 0), ("slide", 0), ("slide", 0, 1, 1), ("slide", (0, 1)),
            ("slide",), (), ("turn",), ("turn", 1), ("turn", -1), ("turn", 0, 0), ("turn", True),
            ("turn", False), ("turn", None), ("turn", "0"), ("turn", 0.0), ("slide", False, 1),
            ("slide", 0, True), ("slide", "0", "1"), ("slide", 0.0, 1), ("slide", [0], 1), ("Turn", 0),
            ("slides", 0, 1), (0, 1), (Odd(), 0, 1), ("slide", Odd(), Odd()), ("turn", Odd()),
            ["slide", 0, 1], ["turn", 0], "turn", (("turn", 0),), ("turn", [0]), ({}, 0)) + NO_ROWS

# The ties 0 to 1 and 1 to 2 alone, and one ring.
SMALL = Yard(3, ((0, 1), (1, 0), (1, 2)), ((0, 1, 2),))


class MovesTest(unittest.TestCase):
    def test_moves_at(self):
        self.assertEqual(moves_at(SQUARE, (0, 3, 5)), (
            ("slide", 0, 1), ("slide", 0, 2), ("slide", 3, 2), ("slide", 3, 4), ("slide", 5, 4),
            ("turn", 0), ("turn", 1)))
        self.assertEqual(moves_at(SQUARE, [2, 4]), (
            ("slide", 2, 1), ("slide", 2, 3), ("slide", 4, 3), ("turn", 0), ("turn", 1)))
        self.assertEqual(moves_at(LINE, (0, 1, 2, 3)), ())
        self.assertEqual(moves_at(BARE, ()), ())

    def test_moves_ascend_as_tuples(self):
        yard = Yard(12, both_ways([(2, 10), (2, 9)]), [(0, 1, 2)] * 11)
        found = moves_at(yard, (2,))
        self.assertEqual(found, tuple(sorted(found)))
        self.assertEqual(found[:3], (("slide", 2, 9), ("slide", 2, 10), ("turn", 0)))
        self.assertEqual(found[-2:], (("turn", 9), ("turn", 10)))

    def test_turns_can_always_be_made(self):
        for many in range(6):
            for row in itertools.combinations(range(5), many):
                self.assertEqual(moves_at(RINGS, row), (("turn", 0), ("turn", 1)))
                self.assertEqual(len(led(RINGS, row, (("turn", 1),))[0]), many)

    def test_no_filled_rows(self):
        for row in NO_FILLED_ROWS:
            for call in (lambda: moves_at(LINE, row), lambda: led(LINE, row, (5,))):
                with self.assertRaises(BadRow) as caught:
                    call()
                self.assertIs(caught.exception.row, row)

    def test_played(self):
        self.assertEqual(played(LINE, (7, 0, 0, 9), (("slide", 0, 1), ("slide", 3, 2))), (0, 7, 9, 0))
        self.assertEqual(played(LINE, [7, 0, 0, 9], [("slide", 3, 2), ("slide", 2, 1)]), (7, 9, 0, 0))
        self.assertEqual(played(LINE, [1, 1, 0, 0], ()), (1, 1, 0, 0))
        self.assertEqual(played(LINE, [0, 0, 0, 0], []), (0, 0, 0, 0))

    def test_turns_lead_on_by_one(self):
        self.assertEqual(played(RINGS, (1, 2, 3, 4, 5), (("turn", 0),)), (3, 1, 2, 4, 5))
        self.assertEqual(played(RINGS, (1, 0, 3, 4, 0), (("turn", 1),)), (0, 0, 1, 3, 4))
        self.assertEqual(played(RINGS, (1, 2, 3, 4, 5), (("turn", 0), ("turn", 1))), (5, 1, 3, 2, 4))
        self.assertEqual(played(RINGS, (1, 2, 3, 4, 5), [("turn", 1)] * 4), (1, 2, 3, 4, 5))

    def test_a_slide_one_way(self):
        self.assertEqual(played(SMALL, (0, 1, 0), (("slide", 1, 2),)), (0, 0, 1))
        with self.assertRaises(BadMove) as caught:
            played(SMALL, (0, 0, 1), (("slide", 2, 1),))
        self.assertEqual(caught.exception.index, 0)

    def test_no_stands(self):
        for stand in ((), (0, 1), (0, 1, -1), (0, 1, True), "010", None, (0, 0, [1]), Odd()):
            with self.assertRaises(BadRow) as caught:
                played(SMALL, stand, (5,))
            self.assertIs(caught.exception.row, stand)

    def test_no_moves(self):
        ahead = (("turn", 0), ("slide", 1, 2))
        for bad in NO_MOVES:
            for moves in (ahead + (bad, 5), list(ahead) + [bad]):
                for call in (lambda: played(SMALL, (1, 0, 0), moves),
                             lambda: led(SMALL, (0,), moves),
                             lambda: taken_back(SMALL, moves)):
                    with self.assertRaises(BadMove, msg=bad) as caught:
                        call()
                    self.assertEqual(caught.exception.index, 2)

    def test_moves_that_cannot_be_made(self):
        for stand, moves, index in (
                ((0, 0, 0), (("slide", 0, 1),), 0),
                ((1, 2, 0), (("slide", 0, 1),), 0),
                ((1, 0, 0), (("slide", 0, 1), ("slide", 0, 1)), 1),
                ((1, 2, 0), (("slide", 1, 2), ("slide", 0, 1), ("slide", 1, 2), 5), 2),
                ((1, 0, 0), (("turn", 0), ("turn", 0), ("slide", 1, 2)), 2)):
            for call in (lambda: played(SMALL, stand, moves),
                         lambda: led(SMALL, filled(stand), moves)):
                with self.assertRaises(BadMove) as caught:
                    call()
                self.assertEqual(caught.exception.index, index)

    def test_led(self):
        self.assertEqual(led(LINE, (0, 3), (("slide", 0, 1), ("slide", 3, 2))), ((1, 2), (1, 2)))
        self.assertEqual(led(RINGS, (0, 2), (("turn", 0),)), ((0, 1), (1, 0)))
        self.assertEqual(led(RINGS, [0, 2], []), ((0, 2), (0, 2)))
        self.assertEqual(led(RINGS, (), (("turn", 0),)), ((), ()))

    def test_facts_a_and_b(self):
        for yard, stand, moves in cases():
            row = filled(stand)
            behind, places = led(yard, row, moves)
            after = played(yard, stand, moves)
            self.assertTrue(is_stand(yard, after))
            self.assertEqual(filled(after), behind)
            self.assertEqual([after[place] for place in places], [stand[place] for place in row])
            self.assertEqual(tuple(sorted(places)), behind)
            self.assertEqual(things_of(after), things_of(stand))
            self.assertTrue(isinstance(places, tuple))

    def test_fact_a_on_moves_of_all_kinds(self):
        dice = random.Random(9)
        for _ in range(400):
            stand = random_stand(dice, SQUARE)
            moves = [dice.choice((("turn", 1), ("slide", *dice.choice(SQUARE.ties))))
                     for _ in range(3)]
            told = []
            for call in (lambda: played(SQUARE, stand, moves),
                         lambda: led(SQUARE, filled(stand), moves)):
                try:
                    call()
                    told.append(None)
                except BadMove as wrong:
                    told.append(wrong.index)
            self.assertEqual(told[0], told[1])

    def test_fact_c(self):
        for yard, stand, moves in cases():
            row = filled(stand)
            for at in range(len(moves) + 1):
                behind, first = led(yard, row, moves[:at])
                last, second = led(yard, behind, moves[at:])
                together = tuple([second[behind.index(place)] for place in first])
                self.assertEqual(led(yard, row, moves), (last, together))

    def test_moves_change_nothing_that_is_passed(self):
        stand, moves, row = [1, 0, 2], [("turn", 0), ("slide", 1, 2)], [0, 2]
        played(SMALL, stand, moves)
        led(SMALL, row, moves)
        moves_at(SMALL, row)
        taken_back(SMALL, moves)
        self.assertEqual((stand, moves, row), ([1, 0, 2], [("turn", 0), ("slide", 1, 2)], [0, 2]))
        self.assertEqual(SMALL, Yard(3, ((0, 1), (1, 0), (1, 2)), ((0, 1, 2),)))

    def test_long_rows(self):
        moves = (("slide", 0, 1), ("slide", 1, 0)) * 5000
        self.assertEqual(played(LINE, (1, 0, 0, 2), moves), (1, 0, 0, 2))
        self.assertEqual(led(LINE, (0, 3), moves), ((0, 3), (0, 3)))
        self.assertEqual(taken_back(LINE, moves), moves)


class BackTest(unittest.TestCase):
    def test_taken_back(self):
        self.assertEqual(taken_back(SMALL, ()), ())
        self.assertEqual(taken_back(SMALL, [("slide", 0, 1), ("slide", 1, 0)]),
                         (("slide", 0, 1), ("slide", 1, 0)))
        self.assertEqual(taken_back(SMALL, (("slide", 0, 1), ("turn", 0))),
                         (("turn", 0), ("turn", 0), ("slide", 1, 0)))
        self.assertEqual(taken_back(RINGS, (("turn", 0), ("turn", 1))),
                         (("turn", 1),) * 3 + (("turn", 0),) * 2)

    def test_whether_it_can_be_made_is_not_asked(self):
        self.assertEqual(taken_back(SMALL, (("slide", 0, 1),) * 2), (("slide", 1, 0),) * 2)

    def test_no_tie_back(self):
        self.assertIsNone(taken_back(SMALL, (("slide", 1, 2),)))
        self.assertIsNone(taken_back(SMALL, (("turn", 0), ("slide", 1, 2), ("slide", 0, 1))))

    def test_bad_move_ahead_of_none(self):
        with self.assertRaises(BadMove) as caught:
            taken_back(SMALL, (("slide", 1, 2), ("slide", 2, 1), ("turn", 1)))
        self.assertEqual(caught.exception.index, 1)

    def test_fact_d(self):
        known = 0
        for yard, stand, moves in cases():
            back = taken_back(yard, moves)
            one_way = [move for move in moves
                       if move[0] == "slide" and move[:0:-1] not in yard.ties]
            self.assertEqual(back is None, one_way != [])
            if back is not None:
                known += 1
                self.assertEqual(played(yard, played(yard, stand, moves), back), stand)
        self.assertGreater(known, 50)


if __name__ == "__main__":
    unittest.main()
