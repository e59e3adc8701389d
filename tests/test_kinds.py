"""Points [38] to [41] of DOC.md, and what [2] says of them."""

import itertools
import random
import unittest

from samples import (BARE, FALL, LIFT, LINE, NO_COUNTS, NO_FILLED_ROWS, NO_ROWS, NO_STANDS, PARTS, RINGS, SQUARE, THETA,
                     WHEEL, Odd, check_error, check_interface, check_kept, distances, other_outs, random_moves,
                     stand_with, tuples_alone)
from slideyards import kinds as kinds_module
from slideyards.chains import chain_of, product_at
from slideyards.errors import BadNumber, BadRow, BadTie, TooMany, Unlike
from slideyards.joining import Apart, Barred, Moves, join
from slideyards.kinds import (Brought, Cases, Found, Held, Reached, Shut, along, closed_from, home_things, is_along,
                              is_kinds_told, is_settled, is_shut, kinds_joined, leads, moved_kinds, moves_for, settle,
                              stand_of)
from slideyards.lines import still, times
from slideyards.lots import Outs, lot_of, outs_of
from slideyards.rounds import bearing, given_of, rounds_along, rounds_of
from slideyards.yards import Yard, filled, played

# Rows of things, for the filled places of a yard.
PLACED = ((LINE, (0, 1), (7, 7)), (LINE, (0, 1, 3), (4, 4, 2)), (LINE, (), ()), (LINE, (0, 1, 2, 3), (1, 1, 2, 2)),
          (SQUARE, (0, 1, 3), (1, 2, 2)), (SQUARE, (1, 2), (3, 3)), (SQUARE, (0, 1, 2, 3), (5, 5, 6, 7)),
          (THETA, (1, 2, 3, 4, 5), (1, 1, 2, 2, 3)), (THETA, (0, 4, 5), (9, 99, 9)),
          (WHEEL, (1, 2, 3, 4), (1, 1, 2, 3)),
          (WHEEL, (1, 3), (8, 8)), (LIFT, (0, 2), (1, 1)), (LIFT, (0, 2, 3), (1, 2, 1)), (RINGS, (0, 1, 4), (1, 1, 2)),
          (RINGS, (0, 1, 2, 3, 4), (1, 1, 1, 2, 2)), (BARE, (1, 2), (6, 6)), (PARTS, (0, 2, 4), (1, 1, 2)),
          (PARTS, (0, 2, 3, 4), (1, 2, 2, 1)), (SQUARE, (0, 1, 3), (1, 2, 3)), (RINGS, (0, 1, 4), (1, 2, 3)))
NO_KINDS = ((0, 1), (1, -1), (True, 1), (1, "1"), (1.0, 1), (None,), (Odd(), 1), ((1,),), [0], [[1]]) + NO_ROWS
# For rows of three kinds.
NO_THREE_KINDS = NO_KINDS + ((1, 2), (1, 2, 3, 4), (), [1, 2])
NO_GIVEN = (((0, 1), (0, 1, 2)), ((0, 0),), ((1,),), ((0, 1), None), ((0, True),), ((0, 1.0),), (3,), [[0, 2]],
            ((Odd(), Odd()),), ("01",)) + NO_ROWS
TURN, SWAP = (1, 2, 0, 3), (1, 0, 2, 3)


def slow_moved(kinds, one):
    moved = [None] * len(one)
    for number, then in enumerate(one):
        moved[then] = kinds[number]
    return tuple(moved)


def slow_distances(given, kinds):
    """For each row that comes from one the least number of given ones."""
    found = {tuple(kinds): 0}
    waiting = [tuple(kinds)]
    for now in waiting:
        for one in given:
            then = slow_moved(now, one)
            if then not in found:
                found[then] = found[now] + 1
                waiting.append(then)
    return found


def drawn_rows():
    """Given permutations of a few numbers, and a row of kinds."""
    dice = random.Random(39)
    yield (), (1, 2, 1)
    yield ((),), ()
    yield (TURN,), (1, 2, 3, 3)
    for _ in range(40):
        m = dice.randrange(1, 6)
        given = tuple(tuple(dice.sample(range(m), m)) for _ in range(dice.randrange(4)))
        yield given, tuple(dice.randrange(1, 4) for _ in range(m))


ROWS = list(drawn_rows())


class InterfaceTest(unittest.TestCase):
    def test_names_and_arguments(self):
        check_interface(self, kinds_module, {
            "home_things": "yard outs stand", "stand_of": "yard outs row kinds", "moved_kinds": "kinds one",
            "closed_from": "given kinds most", "is_shut": "given rows", "kinds_joined": "given one other most",
            "is_kinds_told": "given one other told", "along": "given chain one other most",
            "is_along": "given chain one other told", "settle": "yard one other", "leads": "told",
            "is_settled": "yard one other told", "moves_for": "yard one other told", "Reached": "numbers",
            "Shut": "rows", "Found": "points", "Cases": "tree", "Brought": "outs numbers", "Held": "outs rows"})

    def test_papers(self):
        for kind, names in ((Reached, ["numbers"]), (Shut, ["rows"]), (Found, ["points"]), (Cases, ["tree"]),
                            (Brought, ["outs", "numbers"]), (Held, ["outs", "rows"])):
            check_kept(self, kind, names)


class HomeTest(unittest.TestCase):
    def test_examples(self):
        outs = outs_of(RINGS, (0, 1))
        # The way to (0, 2) leads what stands on 0 to 2, and what stands on 1 to 0.
        self.assertEqual(bearing(RINGS, outs, (0, 2)), (2, 0))
        self.assertEqual(home_things(RINGS, outs, (5, 0, 7, 0, 0)), (7, 5))
        self.assertEqual(home_things(RINGS, outs, [7, 0, 7, 0, 0]), (7, 7))
        self.assertEqual(stand_of(RINGS, outs, (0, 2), (7, 5)), (5, 0, 7, 0, 0))
        self.assertEqual(stand_of(RINGS, outs, [0, 2], [500, 500]), (500, 0, 500, 0, 0))
        self.assertEqual(home_things(BARE, outs_of(BARE, ()), (0, 0, 0)), ())
        self.assertEqual(stand_of(BARE, outs_of(BARE, ()), (), ()), (0, 0, 0))

    def test_fact_a(self):
        dice = random.Random(38)
        for yard, row, things in PLACED:
            for outs in (outs_of(yard, row), other_outs(dice, yard, row)):
                for item in outs.rows:
                    for kinds in sorted(set(itertools.permutations(things)))[:20]:
                        stand = stand_of(yard, outs, item, kinds)
                        self.assertEqual(filled(stand), item)
                        self.assertEqual([stand[place] for place in bearing(yard, outs, item)], list(kinds))
                        self.assertEqual(home_things(yard, outs, stand), kinds)
                        other = stand_with(yard, item, kinds)
                        self.assertEqual(stand_of(yard, outs, item, home_things(yard, outs, other)), other)

    def test_wrong_arguments(self):
        outs = outs_of(LINE, (1, 2))
        for stand in NO_STANDS + ((1, 0, 0, 0), (1, 1, 1, 0), [0, 0, 0, 0]):
            check_error(self, BadRow, {"row": stand}, home_things, LINE, outs, stand)
        for row in NO_FILLED_ROWS + ((), (0,), (0, 1, 2), [1]):
            for kinds in ((1, 1), None):
                check_error(self, BadRow, {"row": row}, stand_of, LINE, outs, row, kinds)
        for kinds in NO_KINDS + ((1,), (1, 1, 1), ()):
            check_error(self, BadRow, {"row": kinds}, stand_of, LINE, outs, (0, 2), kinds)
        stand = (0, 0, 4, 4, 0)
        check_error(self, BadRow, {"row": stand}, home_things, PARTS, outs_of(PARTS, (0, 2)), stand)
        check_error(self, BadRow, {"row": (2, 3)}, stand_of, PARTS, outs_of(PARTS, (0, 2)), (2, 3), (1, 1))

    def test_moved_kinds(self):
        self.assertEqual(moved_kinds((7, 8, 9), (1, 2, 0)), (9, 7, 8))
        self.assertEqual(moved_kinds([7, 7, 9], [1, 0, 2]), (7, 7, 9))
        self.assertEqual(moved_kinds((), ()), ())
        for kinds in NO_KINDS:
            for one in ((0, 1), None):
                check_error(self, BadRow, {"row": kinds}, moved_kinds, kinds, one)
        for one in ((0, 1), (0, 1, 2, 3), (0, 0, 1), (1, 2, 3), (0, True, 2), [0, 2.0, 1], (0, Odd(), 2)) + NO_ROWS:
            check_error(self, BadRow, {"row": one}, moved_kinds, (1, 1, 1), one)

    def test_fact_b(self):
        dice = random.Random(40)
        for yard, row, things in PLACED:
            for outs in (outs_of(yard, row), other_outs(dice, yard, row)):
                told = rounds_of(yard, outs)
                for item in outs.rows:
                    stand = stand_with(yard, item, things)
                    moves = random_moves(dice, yard, item, dice.randrange(12))
                    product = still(len(row))
                    for number in rounds_along(yard, outs, item, moves):
                        product = times(product, told[number].permutation)
                    self.assertEqual(home_things(yard, outs, played(yard, stand, moves)),
                                     moved_kinds(home_things(yard, outs, stand), product))


class ClosedTest(unittest.TestCase):
    def test_examples(self):
        self.assertEqual(closed_from((TURN,), (1, 2, 3, 3), 3), ((1, 2, 3, 3), (2, 3, 1, 3), (3, 1, 2, 3)))
        self.assertEqual(closed_from([list(TURN)], [2, 2, 2, 1], 1), ((2, 2, 2, 1),))
        self.assertEqual(closed_from((), (5, 3), 9), ((5, 3),))
        self.assertEqual(closed_from([()], (), 1), ((),))

    def test_all(self):
        for given, kinds in ROWS:
            found = slow_distances(given, kinds)
            for most in (len(found), len(found) + 1, 5000):
                rows = closed_from(given, kinds, most)
                self.assertEqual(rows, tuple(sorted(found)))
                self.assertTrue(tuples_alone(rows))
            for most in (len(found) - 1, 0):
                check_error(self, TooMany, {"most": most}, closed_from, given, kinds, most)
                for other in (kinds, kinds[::-1]):
                    check_error(self, TooMany, {"most": most}, kinds_joined, given, kinds, other, most)

    def test_fact_c(self):
        for given, kinds in ROWS:
            rows = closed_from(given, kinds, 5000)
            self.assertIs(is_shut(given, rows), True)
            for row in rows:
                self.assertEqual(closed_from(given, row, 5000), rows)
                rest = tuple(item for item in rows if item != row)
                self.assertIs(is_shut(given, rest), len(rows) == 1)

    def test_given_ones_that_are_none(self):
        for given in NO_GIVEN:
            check_error(self, BadRow, {"row": given}, closed_from, given, None, None)
            check_error(self, BadRow, {"row": given}, is_shut, given, None)
            check_error(self, BadRow, {"row": given}, kinds_joined, given, None, None, None)
            check_error(self, BadRow, {"row": given}, is_kinds_told, given, None, None, None)

    def test_kinds_that_are_none(self):
        for given, some in ((((1, 2, 0),), NO_THREE_KINDS), ((), NO_KINDS)):
            for kinds in some:
                check_error(self, BadRow, {"row": kinds}, closed_from, given, kinds, None)
                check_error(self, BadRow, {"row": kinds}, kinds_joined, given, kinds, None, None)
                check_error(self, BadRow, {"row": kinds}, is_kinds_told, given, kinds, None, None)
        for given in (((1, 2, 0),), ()):
            for kinds in NO_THREE_KINDS:
                check_error(self, BadRow, {"row": kinds}, kinds_joined, given, (1, 1, 2), kinds, None)
                check_error(self, BadRow, {"row": kinds}, is_kinds_told, given, (1, 1, 2), kinds, None)

    def test_bounds_that_are_none(self):
        for most in NO_COUNTS:
            check_error(self, BadNumber, {"what": "most", "number": most}, closed_from, (TURN,), (1, 1, 1, 2), most)
            check_error(self, BadNumber, {"what": "most", "number": most}, kinds_joined, (TURN,), (1, 1, 1, 2),
                        (1, 1, 1, 2), most)

    def test_shut(self):
        rows = ((1, 2, 3, 3), (2, 3, 1, 3), (3, 1, 2, 3))
        more = ((1, 1, 1, 1), (2, 2, 2, 500))
        for right in ((), rows, rows[::-1], more, more[:1], rows + more, more[1:] + rows):
            self.assertIs(is_shut((TURN,), right), True)
            self.assertIs(is_shut([list(TURN)], right), True)
        for wrong in (rows[:2], rows + rows[:1], rows + (None,), list(rows), [], rows[:2] + ([3, 1, 2, 3],),
                      more + ((1, 1, 1),), more + ((),), ((),), ((1, 1, 1, True),), ((1, 1, 1.0, 1),), ((0, 0, 0, 0),),
                      ((1, 1, 1, Odd()),), (Odd(),), (1,), ((1, 1, 1, "1"),), more + ((2, 2, 2, -2),),
                      ("1111",), ((1, 1, 1, 1, 1),)) + NO_ROWS:
            self.assertIs(is_shut((TURN,), wrong), False, repr(wrong))
        # Without given ones all rows are closed, if they are of as many kinds.
        for right in ((), rows, rows[1:2], ((),), ((7,), (8,))):
            self.assertIs(is_shut((), right), True)
        for wrong in (rows + ((1, 1, 1),), ((), (1,)), ((1,), (1,)), [(1,)], ([1],), ((True,),)) + NO_ROWS:
            self.assertIs(is_shut([], wrong), False, repr(wrong))


class KindsJoinedTest(unittest.TestCase):
    def test_examples(self):
        self.assertIn(kinds_joined((SWAP, TURN), (1, 1, 2, 3), [1, 2, 1, 3], 9).numbers, ((1, 0), (1, 1)))
        self.assertEqual(kinds_joined((TURN,), [1, 1, 2, 3], (1, 1, 2, 3), 3).numbers, ())
        self.assertEqual(kinds_joined((TURN,), (1, 1, 2, 3), (1, 1, 3, 2), 3).rows,
                         ((1, 1, 2, 3), (1, 2, 1, 3), (2, 1, 1, 3)))
        self.assertEqual(kinds_joined((), (1,), (2,), 1).rows, ((1,),))

    def test_all(self):
        for given, one in ROWS:
            found = slow_distances(given, one)
            for other in sorted(found) + [one[::-1], tuple(kind % 3 + 1 for kind in one)]:
                told = kinds_joined(given, one, other, len(found))
                self.assertIs(is_kinds_told(given, one, other, told), True)
                self.assertIs(is_kinds_told(given, list(one), list(other), told), True)
                if other in found:
                    self.assertIsInstance(told, Reached)
                    self.assertEqual(len(told.numbers), found[other])
                    now = one
                    for number in told.numbers:
                        now = slow_moved(now, given[number])
                    self.assertEqual(now, other)
                    self.assertIs(is_kinds_told(given, one, other, Shut(sorted(found))), False)
                else:
                    self.assertIsInstance(told, Shut)
                    self.assertTrue(tuples_alone(told.rows))
                    self.assertTrue(one in told.rows and other not in told.rows and is_shut(given, told.rows))

    def test_told(self):
        given = (SWAP, TURN, (1, 2, 0, 3))
        one, other = (1, 1, 2, 3), (1, 2, 1, 3)
        for numbers in ((1, 1), (1, 2), (2, 2), [2, 1]):
            self.assertIs(is_kinds_told(given, one, other, Reached(numbers)), True)
        # Longer than needed, or none that leads there.
        for numbers in ((0, 1, 1), (1, 1, 1, 1, 1), (1, 1, 0, 0), (1,), (), (0, 0), (0, 1), (1, 3), (1, -2), (True, 1),
                        (1.0, 1), (Odd(), 1), ([1], 1), ("1", "1"), (None, None)) + NO_ROWS:
            self.assertIs(is_kinds_told(given, one, other, Reached(numbers)), False, repr(numbers))
        self.assertIs(is_kinds_told(given, one, one, Reached(())), True)
        self.assertIs(is_kinds_told(given, one, one, Reached((0,))), False)
        self.assertIs(is_kinds_told(given, one, one, Reached((1, 1, 1))), False)

    def test_told_shut(self):
        one, other = (1, 1, 2, 3), (1, 1, 3, 2)
        rows = closed_from((TURN,), one, 9)
        more = closed_from((TURN,), (4, 5, 6, 6), 9)
        for right in (rows, rows[::-1], rows + more, list(more + rows)):
            self.assertIs(is_kinds_told((TURN,), one, other, Shut(right)), True)
        for wrong in ((), more, rows[1:], rows[:-1], rows + closed_from((TURN,), other, 9), rows + rows,
                      [list(row) for row in rows], rows + (Odd(),)) + NO_ROWS:
            self.assertIs(is_kinds_told((TURN,), one, other, Shut(wrong)), False, repr(wrong))
            self.assertIs(is_kinds_told((TURN,), list(one), list(other), Shut(wrong)), False, repr(wrong))

    def test_any_values(self):
        for told in NO_ROWS + (Found(()), Cases(()), Brought(None, ()), Held(None, ((1, 1, 2, 3),)), Apart(())):
            self.assertIs(is_kinds_told((TURN,), (1, 1, 2, 3), (1, 1, 2, 3), told), False)
            self.assertIs(is_kinds_told((TURN,), (1, 1, 2, 3), (1, 1, 3, 2), told), False)


class SizesTest(unittest.TestCase):
    def test_rows_of_nine_kinds(self):
        dice = random.Random(41)
        given = tuple(tuple(dice.sample(range(9), 9)) for _ in range(60))
        one = (1, 1, 1, 1, 2, 2, 2, 3, 3)
        rows = closed_from(given, one, 5000)
        self.assertEqual(len(rows), 1260)
        self.assertIs(is_shut(given, rows), True)
        other = one[::-1]
        told = kinds_joined(given, one, other, 5000)
        self.assertIs(is_kinds_told(given, one, other, told), True)
        self.assertIs(is_kinds_told(given, one, (1,) * 9, kinds_joined(given, one, (1,) * 9, 1260)), True)
        check_error(self, TooMany, {"most": 5000}, closed_from, given, (1, 1, 2, 3, 4, 5, 6, 7, 8), 5000)

    def test_chains_of_nine_numbers(self):
        given = ((1, 2, 3, 4, 5, 6, 7, 8, 0), (1, 0, 2, 3, 4, 5, 6, 7, 8))
        chain = chain_of(9, given)
        one = (1, 2, 3, 4, 5, 6, 7, 8, 9)
        told = along(given, chain, one, one[::-1], 5000)
        self.assertEqual(moved_kinds(one, product_at(given, chain, told.points)), one[::-1])
        self.assertIs(is_along(given, chain, one, one[::-1], told), True)
        other = (1, 2, 3, 4, 5, 6, 7, 8, 8)
        told = along(given, chain, one, other, 5000)
        self.assertIsInstance(told, Cases)
        self.assertIs(is_along(given, chain, one, other, told), True)


def slow_along(given, chain, one, other):
    """Points or None, a tree, and how many points are looked at, by the words of [40]."""
    points_of = [[point for point, _ in level] for level in chain.levels]
    looked = []

    def tree(points):
        level = len(points)
        if level == len(points_of):
            raise StopIteration(points)
        items = []
        for point in points_of[level]:
            looked.append(point)
            # What comes of one at the number i, by the steps chosen so far.
            product = product_at(given, chain, points)
            items.append(tree(points + (point,)) if one[level] == other[product[point]] else None)
        return tuple(items)

    try:
        return None, tree(()), len(looked)
    except StopIteration as found:
        return found.value, None, len(looked)


class AlongTest(unittest.TestCase):
    def cases(self):
        dice = random.Random(42)
        for given, one in ROWS:
            chain = chain_of(len(one), given)
            rows = sorted(slow_distances(given, one))
            others = [one, one[::-1], rows[-1]] + [tuple(dice.sample(one, len(one))) for _ in range(4)]
            others.append(tuple(kind % 3 + 1 for kind in one))
            for other in others:
                yield given, chain, one, other, other in rows

    def test_examples(self):
        given = (TURN,)
        chain = chain_of(4, given)
        self.assertEqual([len(level) for level in chain.levels], [3, 1, 1, 1])
        # Found behind three points of level 0 and one of each other one, as 0 goes to 2.
        self.assertEqual(along(given, chain, (1, 2, 3, 3), [2, 3, 1, 3], 6).points, (2, 1, 2, 3))
        check_error(self, TooMany, {"most": 5}, along, given, chain, (1, 2, 3, 3), (2, 3, 1, 3), 5)
        told = along(given, chain, [1, 1, 2, 3], (1, 1, 3, 2), 7)
        self.assertEqual(told.tree, (((None,),), (None,), None))
        self.assertEqual(along((), chain_of(0, ()), (), (), 0).points, ())
        self.assertEqual(along((), chain_of(1, ()), (1,), (2,), 1).tree, (None,))

    def test_all(self):
        for given, chain, one, other, comes in self.cases():
            points, tree, looked = slow_along(given, chain, one, other)
            told = along(given, chain, one, other, looked)
            self.assertIs(is_along(given, chain, one, other, told), True)
            self.assertIs(is_along(given, chain, list(one), list(other), told), True)
            if comes:
                self.assertIsInstance(told, Found)
                self.assertEqual(told.points, points)
                self.assertEqual(moved_kinds(one, product_at(given, chain, points)), other)
                rows = itertools.product(*[[point for point, _ in level] for level in chain.levels])
                right = [row for row in rows if moved_kinds(one, product_at(given, chain, row)) == other]
                self.assertEqual(min(right), points)
                for row in right:
                    self.assertIs(is_along(given, chain, one, other, Found(row)), True)
            else:
                self.assertIsInstance(told, Cases)
                self.assertEqual(told.tree, tree)
            if looked:
                check_error(self, TooMany, {"most": looked - 1}, along, given, chain, one, other, looked - 1)

    def test_what_is_not_right(self):
        for given, chain, one, other, comes in self.cases():
            m = len(one)
            for told in NO_ROWS + (Reached(()), Shut(()), Cases(None), Cases(5), Cases([[]]), Cases(Odd()), Found(None),
                                   Found(Odd()), Found((0,) * (m + 1)), Found((Odd(),) * max(m, 1)),
                                   Found((None,) * (m + 1)), Found((None,) * max(m, 1))):
                self.assertIs(is_along(given, chain, one, other, told), False, repr(told))
            rows = itertools.product(*[[point for point, _ in level] for level in chain.levels])
            for row in rows:
                is_right = moved_kinds(one, product_at(given, chain, row)) == other
                self.assertIs(is_along(given, chain, one, other, Found(row)), is_right)
                if m:
                    self.assertIs(is_along(given, chain, one, other, Found(tuple(map(float, row)))), False)
                    self.assertIs(is_along(given, chain, one, other, Found(row[:-1])), False)
                if m > 1:
                    self.assertIs(is_along(given, chain, one, other, Found(tuple(map(bool, row)))), False)
            if comes:
                self.assertIs(is_along(given, chain, one, other, Cases(tree_of_all(chain, 0))), False)
            # Points that a level has not, those that would fit among them.
            for row in itertools.product(range(-1, m + 1), repeat=m) if m < 4 else ((-1,) * m, (m,) * m):
                is_there = all(point in dict(level) for point, level in zip(row, chain.levels))
                is_right = is_there and moved_kinds(one, product_at(given, chain, row)) == other
                self.assertIs(is_along(given, chain, one, other, Found(row)), is_right)

    def test_trees_with_one_thing_changed(self):
        for given, chain, one, other, comes in self.cases():
            if not comes:
                tree = along(given, chain, one, other, 5000).tree
                self.assertIs(is_along(given, chain, one, other, Cases(list(tree))), True)
                for changed in changes(tree):
                    self.assertIs(is_along(given, chain, one, other, Cases(changed)), False, (tree, changed))

    def test_errors(self):
        given = ((1, 2, 0),)
        chain = chain_of(3, given)
        for kinds in NO_THREE_KINDS:
            check_error(self, BadRow, {"row": kinds}, along, given, chain, kinds, None, None)
            check_error(self, BadRow, {"row": kinds}, along, given, chain, (1, 1, 2), kinds, None)
            check_error(self, BadRow, {"row": kinds}, along, (), chain_of(3, ()), kinds, None, None)
            check_error(self, BadRow, {"row": kinds}, along, (), chain_of(3, ()), (1, 1, 2), kinds, None)
            for told in (None, Found((0, 1, 2))):
                check_error(self, BadRow, {"row": kinds}, is_along, given, chain, kinds, None, told)
                check_error(self, BadRow, {"row": kinds}, is_along, given, chain, (1, 1, 2), kinds, told)
        for most in NO_COUNTS:
            check_error(self, BadNumber, {"what": "most", "number": most}, along, given, chain, (1, 1, 2), (1, 1, 2),
                        most)


def tree_of_all(chain, level):
    """A tree in which all points fit."""
    if level == len(chain.levels):
        return ()
    return tuple(tree_of_all(chain, level + 1) for _ in chain.levels[level])


def changes(tree):
    """Trees with one item changed, put in or taken out."""
    yield tree[:-1]
    yield tree + (None,)
    for at, item in enumerate(tree):
        yield tree[:at] + ((() if item is None else None),) + tree[at + 1:]
        yield tree[:at] + ((False if item is None else list(item)),) + tree[at + 1:]
        if item is not None:
            for changed in changes(item):
                yield tree[:at] + (changed,) + tree[at + 1:]


def settle_cases():
    """A yard, a stand, and others of the same things; whether each one can be come to."""
    dice = random.Random(43)
    for yard, row, things in PLACED:
        for begin in (row, dice.choice(lot_of(yard, row))):
            stand = stand_with(yard, begin, dice.sample(things, len(things)))
            known = distances(yard, stand)
            others = sorted(set(itertools.permutations(stand)))
            for other in [stand] + dice.sample(others, min(len(others), 15)):
                yield yard, stand, other, other in known


SETTLE = list(settle_cases())
SETTLED = [(yard, one, other, settle(yard, one, other)) for yard, one, other, _ in SETTLE]
BROUGHT = [case for case in SETTLED if isinstance(case[3], Brought)]
HELD = [case for case in SETTLED if isinstance(case[3], Held)]
NO_PAPERS = NO_ROWS + tuple(kind(*[value] * many) for kind, many in (
    (Brought, 2), (Held, 2), (Apart, 1), (Moves, 3), (Barred, 3)) for value in NO_ROWS + ((), (Odd(),)))


class SettleTest(unittest.TestCase):
    def test_examples(self):
        told = settle(LINE, (7, 0, 7, 9), (0, 7, 9, 7))
        self.assertIsInstance(told, Held)
        self.assertEqual((told.outs.home, told.rows), ((0, 1, 2), ((7, 7, 9),)))
        told = settle(LINE, [7, 0, 7, 9], [7, 7, 0, 9])
        self.assertEqual((told.outs.home, told.numbers), ((0, 1, 2), ()))
        self.assertEqual(settle(PARTS, (1, 0, 1, 0, 0), (0, 0, 1, 0, 1)).rows[0], (0, 2))

    def test_all_stands(self):
        kinds = set()
        for (yard, one, other, is_known), (_, _, _, told) in zip(SETTLE, SETTLED):
            kinds.add(told.__class__)
            is_named = len(set(one) - {0}) == len(filled(one))
            is_apart = filled(other) not in lot_of(yard, filled(one))
            wanted = (Moves, Barred) if is_named else (Brought, Held)
            self.assertIs(told.__class__, wanted[0] if is_known else Apart if is_apart else wanted[1])
            self.assertIs(leads(told), is_known)
            self.assertIs(is_settled(yard, one, other, told), True)
            self.assertIs(is_settled(yard, list(one), list(other), told), True)
            if is_known:
                moves = moves_for(yard, list(one), list(other), told)
                self.assertTrue(tuples_alone(moves))
                self.assertEqual(played(yard, one, moves), other)
        self.assertEqual(len(kinds), 5)

    def test_named_stands_as_of_join(self):
        for yard, one, other, told in SETTLED:
            if isinstance(told, (Moves, Barred)):
                again = join(yard, one, other)
                self.assertEqual((told.__class__, [repr(value) for value in vars(told).values() if value is None or
                                                   isinstance(value, (int, tuple))]),
                                 (again.__class__, [repr(value) for value in vars(again).values() if value is None or
                                                    isinstance(value, (int, tuple))]))

    def test_papers(self):
        for yard, one, other, told in BROUGHT + HELD:
            given = given_of(rounds_of(yard, told.outs))
            rows = [home_things(yard, told.outs, stand) for stand in (one, other)]
            paper = Reached(told.numbers) if isinstance(told, Brought) else Shut(told.rows)
            self.assertIs(is_kinds_told(given, *rows, paper), True)

    def test_leads(self):
        self.assertIs(leads(Moves(None, None, None)), True)
        self.assertIs(leads(Brought(None, None)), True)
        for told in NO_ROWS + (Held(1, 2), Apart(1), Barred(1, 2, 3), Reached(()), Found(()), Moves, Brought):
            self.assertIs(leads(told), False)

    def test_errors(self):
        for one, other, yard, kind, fields in (
                [(stand, None, LINE, BadRow, {"row": stand}) for stand in NO_STANDS]
                + [((1, 1, 0, 0), stand, FALL, BadRow, {"row": stand}) for stand in NO_STANDS]
                + [((1, 1, 0, 0), (1, 0, 2, 0), FALL, Unlike, {"what": "things"}),
                   ((1, 1, 0, 0), [1, 0, 0, 0], LINE, Unlike, {"what": "things"}),
                   ((2, 1, 2, 0), [1, 1, 2, 0], LINE, Unlike, {"what": "things"}),
                   ((1, 0, 1, 0), (0, 0, 1, 1), FALL, BadTie, {"tie": (0, 1)}),
                   ([1, 0, 2, 0], (1, 0, 2, 0), FALL, BadTie, {"tie": (0, 1)}),
                   ((0, 1, 1, 0), (1, 0, 1, 0), FALL, BadTie, {"tie": (1, 2)})]):
            check_error(self, kind, fields, settle, yard, one, other)
            for told in (None, Odd(), Held(1, 2), Moves(1, 2, 3)):
                check_error(self, kind, fields, is_settled, yard, one, other, told)

    def test_too_many_rows(self):
        # Eight things on a ring and a smaller one can come to stand in all orders, two of them alike.
        yard = Yard(8, (), ((0, 1, 2, 3, 4, 5, 6, 7), (0, 1, 2, 3)))
        one = (1, 1, 2, 3, 4, 5, 6, 7)
        for other in (one, one[::-1]):
            check_error(self, TooMany, {"most": 5000}, settle, yard, one, other)
        # What settle refuses is_settled takes.
        told = Brought(outs_of(yard, range_row(8)), ())
        self.assertIs(is_settled(yard, one, one, told), True)
        self.assertIs(is_settled(yard, one, one[::-1], told), False)
        # Seven things, two of them alike, come to stand in 2,520 ways.
        yard = Yard(7, (), ((0, 1, 2, 3, 4, 5, 6), (0, 1, 2)))
        told = settle(yard, (1, 1, 2, 3, 4, 5, 6), (6, 5, 4, 3, 2, 1, 1))
        self.assertIs(is_settled(yard, (1, 1, 2, 3, 4, 5, 6), (6, 5, 4, 3, 2, 1, 1), told), True)

    def test_apart_ahead_of_too_many_rows(self):
        yard = Yard(9, (), ((0, 1, 2, 3, 4, 5, 6, 7), (0, 1, 2, 3)))
        one = (1, 1, 2, 3, 4, 5, 6, 7, 0)
        self.assertEqual(settle(yard, one, (0,) + one[:-1]).rows, (range_row(8),))


def range_row(many):
    return tuple(range(many))


class SettledTest(unittest.TestCase):
    def test_any_values(self):
        for yard, one, other, _ in SETTLED[::12] + BROUGHT[::12] + HELD[::12]:
            for told in NO_PAPERS:
                self.assertIs(is_settled(yard, one, other, told), False, repr(told))

    def test_other_outs(self):
        dice = random.Random(44)
        for yard, one, other, told in BROUGHT[::5] + HELD[::5]:
            outs = other_outs(dice, yard, filled(one))
            given = given_of(rounds_of(yard, outs))
            paper = kinds_joined(given, home_things(yard, outs, one), home_things(yard, outs, other), 5000)
            paper = Brought(outs, paper.numbers) if isinstance(told, Brought) else Held(outs, paper.rows)
            self.assertIs(is_settled(yard, one, other, paper), True)
            if isinstance(told, Brought):
                self.assertEqual(played(yard, one, moves_for(yard, one, other, paper)), other)

    def test_one_thing_changed(self):
        for yard, one, other, told in BROUGHT + HELD:
            outs = told.outs
            rest = told.numbers if isinstance(told, Brought) else told.rows
            kind, contrary = (Brought, Held) if isinstance(told, Brought) else (Held, Brought)
            changed = [None, (outs.home, outs.rows, outs.ways), Outs(outs.home, outs.rows[:-1], outs.ways[:-1]),
                       Outs(outs.home, outs.rows, outs.ways[:-1]), Outs(outs.home + (0,), outs.rows, outs.ways),
                       Outs(outs.home, outs.rows, outs.ways[:-1] + ((("slide", 0, 0),),)), Odd()]
            for item in changed:
                self.assertIs(is_settled(yard, one, other, kind(item, rest)), False)
            for item in (None, rest + (99,), rest + rest if len(rest) > 0 else 5, Odd(), rest + (Odd(),)):
                self.assertIs(is_settled(yard, one, other, kind(outs, item)), False)
            self.assertIs(is_settled(yard, one, other, contrary(outs, rest)), False)
            self.assertIs(is_settled(yard, one, other, contrary(outs, ())), False)
            rows = closed_from(given_of(rounds_of(yard, outs)), home_things(yard, outs, one), 5000)
            self.assertIs(is_settled(yard, one, other, Held(outs, rows)), kind is Held)
            self.assertIs(is_settled(yard, one, other, Apart(outs.rows)), False)
            self.assertIs(is_settled(yard, one, other, Moves(outs, (), None)), False)

    def test_apart(self):
        for yard, one, other, told in SETTLED:
            if isinstance(told, Apart):
                self.assertEqual(told.rows, lot_of(yard, filled(one)))
                for rows in (told.rows[:-1], told.rows + told.rows[:1], [list(row) for row in told.rows], Odd(),
                             told.rows + (filled(other),)):
                    self.assertIs(is_settled(yard, one, other, Apart(rows)), False)
                outs = outs_of(yard, filled(one))
                self.assertIs(is_settled(yard, one, other, Brought(outs, ())), False)
                self.assertIs(is_settled(yard, one, other, Held(outs, ())), False)
                self.assertIs(is_settled(yard, one, other, Moves(outs, (), None)), False)

    def test_papers_of_the_other_kind_of_stands(self):
        # Of named stands no rows of kinds are taken, though they would tell the same.
        for yard, one, other, told in SETTLED:
            if isinstance(told, (Moves, Barred)):
                given = given_of(rounds_of(yard, told.outs))
                rows = [home_things(yard, told.outs, stand) for stand in (one, other)]
                paper = kinds_joined(given, *rows, 5000)
                paper = (Brought(told.outs, paper.numbers) if isinstance(paper, Reached)
                         else Held(told.outs, paper.rows))
                self.assertIs(leads(paper), leads(told))
                self.assertIs(is_settled(yard, one, other, paper), False)


class MovesForTest(unittest.TestCase):
    def test_too_many_moves(self):
        # The outs lead home by so many turns that all moves are too many.
        yard = Yard(3, (), ((0, 1, 2),))
        stand = (1, 1, 2)
        told = Brought(Outs((0, 1, 2), ((0, 1, 2),), ((("turn", 0),) * 200001,)), ())
        self.assertIs(is_settled(yard, stand, stand, told), True)
        check_error(self, TooMany, {"most": 200000}, moves_for, yard, stand, stand, told)

    def test_nine_places(self):
        dice = random.Random(45)
        pairs = [(a, b) for a in range(9) for b in range(9) if a != b]
        yard = Yard(9, dice.sample(pairs, 60), [dice.sample(range(9), length) for length in (3, 4, 5, 6, 9, 9)])
        for things in ((1, 1, 2, 2, 3, 3, 4, 4), (1, 2, 3, 4, 5, 6, 6), (1, 1, 1, 2, 2, 2), (1,) * 9, (1, 1),
                       (1, 2, 3)):
            one = stand_with(yard, range_row(9), things + (0,) * (9 - len(things)))
            other = tuple(dice.sample(one, 9))
            told = settle(yard, one, other)
            self.assertIs(is_settled(yard, one, other, told), True)
            self.assertEqual(played(yard, one, moves_for(yard, one, other, told)), other)


if __name__ == "__main__":
    unittest.main()
