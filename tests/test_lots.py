"""Points [14] to [18] of DOC.md, and what [2] says of them."""

import itertools
import random
import unittest

from samples import NO_FILLED_ROWS, NO_ROWS, Odd, check_error, check_interface, random_moves, tuples_alone
from slideyards import lots
from slideyards.errors import BadRow, BadTie
from slideyards.lots import Outs, are_outs, is_closed, lost_tie, lot_of, outs_of, way_home
from slideyards.yards import Yard, both_ways, led, moves_at, taken_back

LINE = Yard(4, both_ways([(0, 1), (1, 2), (2, 3)]), ())
SQUARE = Yard(4, both_ways([(0, 1), (1, 2), (2, 3), (3, 0)]), ())
# Ties that lead round one way alone, and a ring.
WHEEL = Yard(4, ((0, 1), (1, 2), (2, 3), (3, 0)), ((0, 2, 1),))
# Things fall from 0 by 1 to 2 and 3.
FALL = Yard(4, ((0, 1), (1, 2), (1, 3), (2, 3), (3, 2)), ())
RINGS = Yard(5, (), ((0, 1, 2), (2, 3, 4, 0)))
BARE = Yard(3, (), ())
# One way down, and a ring by which to come back.
LIFT = Yard(4, ((0, 1), (1, 2), (2, 3)), ((0, 1, 2, 3),))
YARDS = (LINE, SQUARE, WHEEL, FALL, RINGS, BARE, LIFT)


def drawn_yards():
    """Yards of all kinds: of few ties and many, one way and both ways, with rings and without."""
    dice = random.Random(14)
    yield from YARDS
    for _ in range(60):
        places = dice.randrange(1, 6)
        pairs = list(itertools.permutations(range(places), 2))
        ties = dice.sample(pairs, dice.randrange(min(len(pairs), places + 3) + 1))
        if dice.randrange(4) == 0:
            ties = both_ways(ties)
        rings = [dice.sample(range(places), dice.randrange(3, places + 1))
                 for _ in range(dice.choice((0, 0, 1))) if places > 2]
        yield Yard(places, ties, rings)


def all_rows(yard):
    for many in range(yard.places + 1):
        yield from itertools.combinations(range(yard.places), many)


def place_behind(yard, place, move):
    """Where a move leads what stands on a place, by the words of [8] and [10]."""
    if move[0] == "slide":
        return move[2] if place == move[1] else place
    ring = yard.rings[move[1]]
    return ring[(ring.index(place) + 1) % len(ring)] if place in ring else place


def row_behind(yard, row, move):
    return tuple(sorted(place_behind(yard, place, move) for place in row))


def slow_lots(yard):
    """For each row all rows that can be come to: more and more of them, until there are no new ones."""
    steps = {row: {row_behind(yard, row, move) for move in moves_at(yard, row)} for row in all_rows(yard)}
    lots = {row: {row} for row in steps}
    is_done = False
    while not is_done:
        is_done = True
        for row in steps:
            more = lots[row].union(*[lots[then] for then in steps[row]])
            if more != lots[row]:
                lots[row] = more
                is_done = False
    return lots


def slow_lost(yard, row, lots):
    """All ties that are lost, by the words of [15]."""
    return {move[1:] for now in lots[row] for move in moves_at(yard, now)
            if move[0] == "slide" and now not in lots[row_behind(yard, now, move)]}


# Yards, filled rows, their lots, and the ties that are lost.
CASES = []
for drawn in drawn_yards():
    found = slow_lots(drawn)
    CASES.extend((drawn, row, tuple(sorted(found[row])), slow_lost(drawn, row, found)) for row in found)
RETURNING = [(yard, row, lot) for yard, row, lot, lost in CASES if not lost]


def slow_ways(yard, row):
    """The least of the shortest rows of moves to each row: made better until none gets better."""
    ways = {row: ()}
    is_done = False
    while not is_done:
        is_done = True
        for now in list(ways):
            for move in moves_at(yard, now):
                then, way = row_behind(yard, now, move), ways[now] + (move,)
                if then not in ways or (len(way), way) < (len(ways[then]), ways[then]):
                    ways[then] = way
                    is_done = False
    return ways


class InterfaceTest(unittest.TestCase):
    def test_names_and_arguments(self):
        check_interface(self, lots, {
            "lot_of": "yard row", "is_closed": "yard rows", "lost_tie": "yard row",
            "Outs": "home rows ways", "outs_of": "yard row", "are_outs": "yard row told",
            "way_home": "yard row"})

    def test_outs_keep_what_they_are_given(self):
        for value in (None, 5, "x", (1, [2]), {"a": 1}, Odd()):
            outs = Outs(value, value, value)
            self.assertTrue(outs.home is value and outs.rows is value and outs.ways is value)

    def test_outs_copy_lists(self):
        home, rows, ways = [0], [[0], [1]], [[], [("turn", 0)]]
        outs = Outs(home, rows, ways)
        home.append(1), rows.append(1), ways.append(1)
        self.assertEqual((outs.home, outs.rows, outs.ways), ((0,), ([0], [1]), ([], [("turn", 0)])))

    def test_outs_are_equal_to_themselves_alone(self):
        outs = Outs((), ((),), ((),))
        self.assertTrue(outs == outs)
        self.assertFalse(outs == Outs((), ((),), ((),)))

    def test_rows_that_are_none(self):
        for row in NO_FILLED_ROWS:
            for call in (lot_of, lost_tie, outs_of, way_home):
                check_error(self, BadRow, {"row": row}, call, LINE, row)
            for told in (None, outs_of(LINE, (0,))):
                check_error(self, BadRow, {"row": row}, are_outs, LINE, row, told)

    def test_lists_as_rows(self):
        self.assertEqual(lot_of(LINE, [3]), lot_of(LINE, (3,)))
        self.assertEqual(lost_tie(FALL, [0]), (0, 1))
        self.assertEqual(outs_of(LINE, [3]).rows, outs_of(LINE, (3,)).rows)
        self.assertIs(are_outs(LINE, [3], outs_of(LINE, (2,))), True)
        row = [2, 3]
        self.assertEqual(way_home(LINE, row), way_home(LINE, (2, 3)))
        self.assertEqual(row, [2, 3])


class LotTest(unittest.TestCase):
    def test_examples(self):
        self.assertEqual(lot_of(LINE, (2,)), ((0,), (1,), (2,), (3,)))
        self.assertEqual(lot_of(LINE, (1, 3)), ((0, 1), (0, 2), (0, 3), (1, 2), (1, 3), (2, 3)))
        self.assertEqual(lot_of(FALL, (0,)), ((0,), (1,), (2,), (3,)))
        self.assertEqual(lot_of(FALL, (2,)), ((2,), (3,)))
        self.assertEqual(lot_of(BARE, (0, 2)), ((0, 2),))

    def test_no_places_and_all_places(self):
        for yard in YARDS:
            self.assertEqual(lot_of(yard, ()), ((),))
            self.assertEqual(lot_of(yard, tuple(range(yard.places))), (tuple(range(yard.places)),))

    def test_rings_turn_without_ties(self):
        self.assertEqual(lot_of(RINGS, (1,)), ((0,), (1,), (2,), (3,), (4,)))
        self.assertEqual(len(lot_of(RINGS, (0, 1))), 10)
        self.assertEqual(lot_of(Yard(4, (), ((0, 1, 2),)), (0, 3)), ((0, 3), (1, 3), (2, 3)))

    def test_all_lots(self):
        for yard, row, lot, _ in CASES:
            self.assertEqual(lot_of(yard, row), lot)

    def test_tuples_alone(self):
        self.assertTrue(tuples_alone(lot_of(LINE, [0, 1])))


class ClosedTest(unittest.TestCase):
    def test_lots_are_closed(self):
        for yard, _, lot, _ in CASES:
            self.assertIs(is_closed(yard, lot), True)

    def test_no_rows_and_several_lots(self):
        self.assertIs(is_closed(LINE, ()), True)
        self.assertIs(is_closed(LINE, lot_of(LINE, (0,)) + ((),)), True)
        self.assertIs(is_closed(LINE, tuple(reversed(lot_of(LINE, (0, 1))))), True)

    def test_rows_that_a_move_leads_out_of(self):
        self.assertIs(is_closed(LINE, ((0,), (1,), (2,))), False)
        self.assertIs(is_closed(LINE, lot_of(LINE, (0,)) + ((0, 1),)), False)
        self.assertIs(is_closed(RINGS, ((0,),)), False)
        self.assertIs(is_closed(FALL, ((2,), (3,))), True)
        self.assertIs(is_closed(FALL, ((1,), (2,))), False)

    def test_all_rows_of_rows(self):
        for yard in YARDS[:4]:
            rows = [row for row in all_rows(yard) if len(row) in (1, 3)]
            for many in range(len(rows) + 1):
                for some in itertools.combinations(rows, many):
                    out = [row for row in some for move in moves_at(yard, row)
                           if row_behind(yard, row, move) not in some]
                    self.assertIs(is_closed(yard, some), not out)

    def test_fact_a(self):
        for yard in YARDS:
            rows = list(all_rows(yard))
            dice = random.Random(3)
            for _ in range(100):
                some = tuple(dice.sample(rows, dice.randrange(len(rows))))
                if is_closed(yard, some):
                    for row in some:
                        self.assertLessEqual(set(lot_of(yard, row)), set(some))

    def test_any_values(self):
        lot = lot_of(LINE, (0,))
        bad = [list(lot), lot + lot[:1], ([0], (1,), (2,), (3,)), ((False,), (True,), (2,), (3,)),
               lot + (Odd(),), lot + (None,), lot + ((4,),), lot + ("",), lot + ((1, 0),),
               ((0.0,), (1,), (2,), (3,)), (Odd(),) * 4, ((Odd(),),), (({},),), ((0, 1, 2, 3, 4),)]
        for value in bad + list(NO_ROWS):
            self.assertIs(is_closed(LINE, value), False, value)


class LostTest(unittest.TestCase):
    def test_examples(self):
        self.assertEqual(lost_tie(FALL, (0,)), (0, 1))
        self.assertEqual(lost_tie(FALL, (1,)), (1, 2))
        self.assertIsNone(lost_tie(FALL, (2,)))
        self.assertEqual(lost_tie(FALL, (1, 2)), (1, 2))
        self.assertIsNone(lost_tie(FALL, (2, 3)))
        self.assertIsNone(lost_tie(FALL, (1, 2, 3)))
        self.assertIsNone(lost_tie(LIFT, (0,)))
        self.assertIsNone(lost_tie(WHEEL, (0, 1)))

    def test_a_tie_is_lost_from_a_row_further_on(self):
        yard = Yard(4, both_ways([(1, 2), (2, 3)]) + ((1, 0),), ())
        self.assertEqual(lost_tie(yard, (3,)), (1, 0))
        self.assertIsNone(lost_tie(yard, (0, 3)))
        self.assertIsNone(lost_tie(yard, (0, 1, 2)))

    def test_the_least_one(self):
        yard = Yard(5, ((0, 3), (0, 2), (4, 0), (3, 1)), ())
        self.assertEqual(lost_tie(yard, (0,)), (0, 2))
        self.assertEqual(lost_tie(yard, (4,)), (0, 2))
        self.assertEqual(lost_tie(yard, (3,)), (3, 1))

    def test_all(self):
        for yard, row, _, lost in CASES:
            self.assertEqual(lost_tie(yard, row), min(lost, default=None))
        many = [len(lost) for _, _, _, lost in CASES]
        for number in (0, 1, 2):
            self.assertGreater(many.count(number), 30)

    def test_fact_b(self):
        for yard, row, lot, _ in CASES:
            returns = all(lot_of(yard, other) == lot for other in lot)
            self.assertEqual(lost_tie(yard, row) is None, returns)
            if both_ways(yard.ties) == yard.ties:
                self.assertTrue(returns)


class OutsTest(unittest.TestCase):
    def test_example(self):
        outs = outs_of(WHEEL, (2, 3))
        self.assertEqual(outs.home, (0, 1))
        self.assertEqual(outs.rows, ((0, 1), (0, 2), (0, 3), (1, 2), (1, 3), (2, 3)))
        self.assertEqual(outs.ways, (
            (), (("slide", 1, 2),), (("slide", 1, 2), ("slide", 2, 3)),
            (("slide", 1, 2), ("slide", 0, 1)),
            (("slide", 1, 2), ("slide", 0, 1), ("slide", 2, 3)),
            (("slide", 1, 2), ("slide", 2, 3), ("turn", 0))))

    def test_slides_go_ahead_of_turns(self):
        self.assertEqual(outs_of(LIFT, (0,)).ways[1], (("slide", 0, 1),))
        self.assertEqual(outs_of(LIFT, (1,)).ways[3], (("slide", 0, 1), ("slide", 1, 2), ("slide", 2, 3)))

    def test_no_places_and_all_places(self):
        for yard in YARDS:
            for row in ((), tuple(range(yard.places))):
                outs = outs_of(yard, row)
                self.assertEqual((outs.home, outs.rows, outs.ways), (row, (row,), ((),)))

    def test_all(self):
        for yard, row, lot in RETURNING:
            outs = outs_of(yard, row)
            ways = slow_ways(yard, lot[0])
            self.assertIsInstance(outs, Outs)
            self.assertEqual((outs.home, outs.rows), (lot[0], lot))
            self.assertEqual(outs.ways, tuple(ways[item] for item in lot))
            self.assertTrue(tuples_alone((outs.home, outs.rows, outs.ways)))

    def test_bad_ties(self):
        for yard, row, _, lost in CASES:
            if lost:
                check_error(self, BadTie, {"tie": min(lost)}, outs_of, yard, row)
                check_error(self, BadTie, {"tie": min(lost)}, way_home, yard, row)

    def test_fact_c(self):
        for yard, row, lot in RETURNING:
            outs = outs_of(yard, row)
            for item, way in zip(outs.rows, outs.ways):
                behind, places = led(yard, outs.home, way)
                self.assertEqual(behind, item)
                self.assertEqual(tuple(sorted(places)), item)


class AreOutsTest(unittest.TestCase):
    def test_what_outs_of_tells(self):
        for yard, row, lot in RETURNING:
            self.assertIs(are_outs(yard, row, outs_of(yard, row)), True)

    def test_other_ways(self):
        dice = random.Random(16)
        for yard in YARDS:
            for row in ((0,), (0, 2)):
                if lost_tie(yard, row) is not None:
                    continue
                outs = outs_of(yard, row)
                ways = [()]
                for item in outs.rows[1:]:
                    ahead = random_moves(dice, yard, outs.home, 5)
                    now = led(yard, outs.home, ahead)[0]
                    ways.append(ahead + slow_ways(yard, now)[item])
                self.assertIs(are_outs(yard, row, Outs(outs.home, outs.rows, ways)), True)

    def test_the_way_to_home(self):
        outs = outs_of(RINGS, (0, 1))
        good = [(("turn", 0),) * 3, (("turn", 1),) * 4, (("turn", 0),) * 6]
        for way in good:
            self.assertIs(are_outs(RINGS, (0, 1), Outs(outs.home, outs.rows, (way,) + outs.ways[1:])), True)
        # Round the square comes each thing to the other one's place.
        outs = outs_of(SQUARE, (0, 1))
        half = (("slide", 1, 2), ("slide", 2, 3), ("slide", 0, 1), ("slide", 3, 0))
        self.assertEqual(led(SQUARE, (0, 1), half), ((0, 1), (1, 0)))
        for way, is_right in ((half, False), (half * 2, True), (half * 3, False), (half[:3], False),
                              (half + taken_back(SQUARE, half), True)):
            told = Outs(outs.home, outs.rows, (way,) + outs.ways[1:])
            self.assertIs(are_outs(SQUARE, (2, 3), told), is_right)

    def test_other_ways_may_lead_things_to_any_places(self):
        outs = outs_of(SQUARE, (0, 1))
        half = (("slide", 1, 2), ("slide", 2, 3), ("slide", 0, 1), ("slide", 3, 0))
        ways = outs.ways[:1] + tuple(half + way for way in outs.ways[1:])
        self.assertIs(are_outs(SQUARE, (0, 1), Outs(outs.home, outs.rows, ways)), True)

    def test_lists_that_are_copied(self):
        outs = outs_of(LINE, (0, 1))
        told = Outs(list(outs.home), list(outs.rows), list(outs.ways))
        self.assertIs(are_outs(LINE, (0, 1), told), True)

    def test_wrong_homes(self):
        outs = outs_of(LINE, (1,))
        for home in ((1,), (False,), (0.0,), (Odd(),), (), (0, 1), 0, None, Odd(), "0"):
            self.assertIs(are_outs(LINE, (1,), Outs(home, outs.rows, outs.ways)), False)

    def test_a_way_out_from_another_row(self):
        ways = [slow_ways(LINE, (1,))[row] for row in lot_of(LINE, (0,))]
        self.assertIs(are_outs(LINE, (1,), Outs((1,), lot_of(LINE, (0,)), ways)), False)

    def test_wrong_rows(self):
        outs = outs_of(LINE, (1,))
        rows = outs.rows
        for bad in (rows[:3], rows + ((),), rows[::-1], rows[:3] + ([3],), ((False,), (True,)) + rows[2:],
                    rows[:3] + ((3.0,),), rows[:3] + (Odd(),), rows[:3] + ((Odd(),),), (), None, Odd(), "0123"):
            self.assertIs(are_outs(LINE, (1,), Outs(outs.home, bad, outs.ways)), False, bad)
        self.assertIs(are_outs(LINE, (1,), Outs(outs.home, rows[::-1], outs.ways[::-1])), False)
        self.assertIs(are_outs(LINE, (1,), Outs(outs.home, rows[:3], outs.ways[:3])), False)

    def test_wrong_ways(self):
        outs = outs_of(LINE, (1,))
        ways = outs.ways
        last = ways[3]
        for bad in (ways[:3], ways + ((),), ways[::-1], ways[:3] + (list(last),), ways[:3] + (ways[2],),
                    ways[:3] + (last + (("slide", 3, 2),),), ways[:3] + (last[1:],), ways[:3] + (None,),
                    ways[:3] + (tuple(list(move) for move in last),), ways[:3] + (last + ("x",),),
                    ways[:3] + ((("slide", False, True),) + last[1:],), ways[:3] + (Odd(),),
                    ways[:3] + (last[:2] + (Odd(),),), ways[:3] + (last + (("turn", 0),),),
                    (), None, Odd(), "wxyz", {}):
            self.assertIs(are_outs(LINE, (1,), Outs(outs.home, outs.rows, bad)), False, bad)

    def test_any_values(self):
        class Like:
            home, rows, ways = (0,), ((0,), (1,), (2,), (3,)), outs_of(LINE, (0,)).ways

        outs = outs_of(LINE, (0,))
        for told in NO_ROWS + (Like(), Outs, (outs.home, outs.rows, outs.ways), [outs], (outs,)):
            self.assertIs(are_outs(LINE, (0,), told), False)
        self.assertIs(are_outs(LINE, (0, 1), outs), False)
        self.assertIs(are_outs(LINE, (), outs), False)

    def test_lots_that_do_not_come_back(self):
        ways = slow_ways(FALL, (0,))
        told = Outs((0,), lot_of(FALL, (0,)), [ways[row] for row in lot_of(FALL, (0,))])
        self.assertIs(are_outs(FALL, (0,), told), False)
        self.assertIs(are_outs(FALL, (0,), outs_of(FALL, (2,))), False)
        self.assertIs(are_outs(FALL, (3,), outs_of(FALL, (2,))), True)
        self.assertIs(are_outs(FALL, (0,), None), False)


class HomeTest(unittest.TestCase):
    def test_examples(self):
        self.assertEqual(way_home(LINE, (3,)), (("slide", 3, 2), ("slide", 2, 1), ("slide", 1, 0)))
        self.assertEqual(way_home(WHEEL, (1,)), (("turn", 0),))
        self.assertEqual(way_home(WHEEL, (2, 3)), (("turn", 0), ("slide", 3, 0)))
        self.assertEqual(way_home(LINE, (0, 1)), ())
        self.assertEqual(way_home(LINE, ()), ())
        self.assertEqual(way_home(FALL, (3,)), (("slide", 3, 2),))

    def test_all(self):
        for yard, row, lot in RETURNING:
            found = way_home(yard, row)
            self.assertEqual(found, slow_ways(yard, row)[lot[0]])
            self.assertTrue(tuples_alone(found))

    def test_fact_d(self):
        for yard, row, lot in RETURNING:
            outs = outs_of(yard, row)
            trip = outs.ways[outs.rows.index(row)] + way_home(yard, row)
            self.assertEqual(led(yard, outs.home, trip)[0], outs.home)
            self.assertEqual(led(yard, outs.home, trip * 60)[1], outs.home)


class SizesTest(unittest.TestCase):
    def test_ten_places(self):
        ties = tuple((a, b) for a in range(10) for b in range(10) if a < b or (a != b and (a + b) % 3 == 0))
        yard = Yard(10, ties, (tuple(range(10)), (0, 1, 2), (5, 7, 9, 3)))
        outs = outs_of(yard, (0, 1, 2, 3, 4))
        self.assertEqual(len(outs.rows), 252)
        self.assertIs(are_outs(yard, (9, 8, 7, 6, 5)[::-1], outs), True)
        self.assertIs(is_closed(yard, outs.rows), True)
        self.assertIs(is_closed(yard, outs.rows[1:]), False)
        self.assertEqual(led(yard, (1, 4, 6, 8, 9), way_home(yard, (1, 4, 6, 8, 9)))[0], outs.home)

    def test_a_long_fall(self):
        yard = Yard(10, [(a, b) for a in range(10) for b in range(a + 1, 10)], ())
        self.assertEqual(len(lot_of(yard, (0, 1, 2, 3, 4))), 252)
        self.assertEqual(lost_tie(yard, (0, 1, 2, 3, 4)), (0, 1))
        self.assertEqual(lost_tie(yard, (5, 6, 7, 8)), (5, 6))


if __name__ == "__main__":
    unittest.main()
