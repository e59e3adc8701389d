"""Points [44] to [49] of DOC.md, and what [2] says of them."""

import itertools
import math
import random
import unittest

from samples import (NO_ROWS, NO_STANDS, Odd, check_error, check_interface, check_kept, distances, stands_behind,
                     tuples_alone)
from slideyards import shapes
from slideyards.counts import count_of
from slideyards.errors import Unlike
from slideyards.joining import Moves, join
from slideyards.shapes import (Colours, OddLoop, Uneven, block_kind, blocks, colours, cuts, evenness, is_coloured,
                               is_linked, is_plain, is_uneven, pairs_of, plain_count, uneven)
from slideyards.yards import Yard, both_ways


def plain(places, *pairs):
    return Yard(places, both_ways(pairs), ())


LINE = plain(4, (0, 1), (1, 2), (2, 3))
SQUARE = plain(4, (0, 1), (1, 2), (2, 3), (0, 3))
TRIANGLE = plain(3, (0, 1), (1, 2), (0, 2))
DIAMOND = plain(4, (0, 1), (1, 2), (2, 3), (0, 3), (0, 2))
GRID = plain(6, (0, 1), (1, 2), (3, 4), (4, 5), (0, 3), (1, 4), (2, 5))
# Two triangles that have the place 2 in common, and a tie.
BOW = plain(6, (0, 1), (1, 2), (0, 2), (2, 3), (3, 4), (2, 4), (4, 5))
PARTS = plain(6, (1, 2), (3, 4), (4, 5), (3, 5))
BARE = plain(3)
ALONE = plain(1)
ONE_WAY = Yard(4, ((0, 1), (1, 2), (2, 0), (3, 2)), ())
RING = Yard(4, both_ways([(0, 1)]), ((0, 1, 2),))
SIX_AND_ONE = plain(7, (0, 1), (1, 2), (2, 3), (3, 4), (4, 5), (0, 5), (0, 6), (3, 6))
YARDS = (LINE, SQUARE, TRIANGLE, DIAMOND, GRID, BOW, PARTS, BARE, ALONE, ONE_WAY, RING, SIX_AND_ONE)


def drawn_yards():
    yield from YARDS
    dice = random.Random(44)
    for at in range(60):
        places = dice.randrange(1, 7)
        pairs = list(itertools.combinations(range(places), 2))
        pairs = dice.sample(pairs, dice.randrange(min(len(pairs), places + 2) + 1))
        if at % 4:
            yield plain(places, *pairs)
        else:
            yield Yard(places, [pair[::dice.choice((1, -1))] for pair in pairs], ())


ALL = list(drawn_yards())


def slow_pairs(yard):
    return {tuple(sorted(tie)) for tie in yard.ties}


def slow_loops(yard):
    """The sets of pairs of all loops, by the words of [44]."""
    pairs = slow_pairs(yard)
    loops = set()
    for many in range(3, yard.places + 1):
        for row in itertools.permutations(range(yard.places), many):
            along = [tuple(sorted(pair)) for pair in zip(row, row[1:] + row[:1])]
            if row[0] == min(row) and all(pair in pairs for pair in along):
                loops.add(frozenset(along))
    return loops


def slow_blocks(yard):
    """Pairs are put together as long as a loop goes along two of them."""
    parts = [{pair} for pair in slow_pairs(yard)]
    for loop in slow_loops(yard):
        met = [part for part in parts if part & loop]
        parts = [part for part in parts if not part & loop] + [set().union(*met)]
    return tuple(sorted(tuple(sorted(set(itertools.chain(*part)))) for part in parts))


def slow_linked(yard):
    """The places that are linked with one another."""
    parts = [{place} for place in range(yard.places)]
    for pair in slow_pairs(yard):
        met = [part for part in parts if part & set(pair)]
        parts = [part for part in parts if part not in met] + [set().union(*met)]
    return parts


def slow_colours(yard, places):
    """All rows of colours of some places, as dicts."""
    pairs = [pair for pair in slow_pairs(yard) if set(pair) <= set(places)]
    rows = [dict(zip(places, row)) for row in itertools.product((0, 1), repeat=len(places))]
    return [row for row in rows if all(row[a] != row[b] for a, b in pairs)]


LOOPS = [(yard, slow_loops(yard)) for yard in ALL if yard.places < 7]


class InterfaceTest(unittest.TestCase):
    def test_names_and_arguments(self):
        check_interface(self, shapes, {
            "pairs_of": "yard", "is_plain": "yard", "is_linked": "yard", "blocks": "yard", "cuts": "yard",
            "colours": "yard", "is_coloured": "yard told", "block_kind": "yard block", "plain_count": "yard",
            "evenness": "yard stand", "uneven": "yard one other", "is_uneven": "yard one other told",
            "Colours": "row", "OddLoop": "places", "Uneven": "row"})

    def test_papers(self):
        for kind, name in ((Colours, "row"), (OddLoop, "places"), (Uneven, "row")):
            check_kept(self, kind, [name])


class PairsTest(unittest.TestCase):
    def test_examples(self):
        self.assertEqual(pairs_of(ONE_WAY), ((0, 1), (0, 2), (1, 2), (2, 3)))
        self.assertEqual(pairs_of(RING), ((0, 1),))
        self.assertEqual((pairs_of(BARE), pairs_of(ALONE)), ((), ()))

    def test_all(self):
        for yard in ALL:
            self.assertEqual(pairs_of(yard), tuple(sorted(slow_pairs(yard))))
            is_both = all((b, a) in yard.ties for a, b in yard.ties)
            self.assertIs(is_plain(yard), is_both and yard.rings == ())
            self.assertIs(is_linked(yard), len(slow_linked(yard)) == 1)

    def test_plain(self):
        for yard in (LINE, BARE, ALONE, PARTS):
            self.assertIs(is_plain(yard), True)
        for yard in (ONE_WAY, RING, Yard(3, (), ((0, 1, 2),))):
            self.assertIs(is_plain(yard), False)

    def test_linked(self):
        for yard in (LINE, ALONE, ONE_WAY, BOW):
            self.assertIs(is_linked(yard), True)
        for yard in (BARE, PARTS, RING, Yard(3, (), ((0, 1, 2),))):
            self.assertIs(is_linked(yard), False)


class BlocksTest(unittest.TestCase):
    def test_examples(self):
        self.assertEqual(blocks(LINE), ((0, 1), (1, 2), (2, 3)))
        self.assertEqual(blocks(BOW), ((0, 1, 2), (2, 3, 4), (4, 5)))
        self.assertEqual(cuts(BOW), (2, 4))
        self.assertEqual(blocks(PARTS), ((1, 2), (3, 4, 5)))
        self.assertEqual((blocks(BARE), cuts(BARE), blocks(ALONE), cuts(PARTS)), ((), (), (), ()))
        self.assertEqual(blocks(ONE_WAY), ((0, 1, 2), (2, 3)))
        # Loops that hang on one another by pairs are one block.
        self.assertEqual(blocks(GRID), ((0, 1, 2, 3, 4, 5),))
        self.assertEqual(blocks(Yard(3, (), ((0, 1, 2),))), ())

    def test_all(self):
        for yard, _ in LOOPS:
            told = blocks(yard)
            self.assertEqual(told, slow_blocks(yard))
            self.assertTrue(tuples_alone(told))
            self.assertEqual(cuts(yard), tuple(place for place in range(yard.places)
                                               if len([block for block in told if place in block]) > 1))

    def test_fact_a(self):
        for yard in ALL:
            told = blocks(yard)
            for a, b in pairs_of(yard):
                self.assertEqual(len([block for block in told if a in block and b in block]), 1)
            for one, other in itertools.combinations(told, 2):
                self.assertLessEqual(len(set(one) & set(other)), 1)


class ColoursTest(unittest.TestCase):
    def test_examples(self):
        self.assertEqual(colours(LINE).row, (0, 1, 0, 1))
        self.assertEqual(colours(SQUARE).row, (0, 1, 0, 1))
        self.assertEqual(colours(BARE).row, (0, 0, 0))
        self.assertEqual(sorted(colours(TRIANGLE).places), [0, 1, 2])
        self.assertEqual(sorted(colours(PARTS).places), [3, 4, 5])

    def test_fact_b(self):
        for yard in ALL:
            told = colours(yard)
            rows = slow_colours(yard, range(yard.places))
            rows = [row for row in rows if all(row[min(part)] == 0 for part in slow_linked(yard))]
            self.assertLessEqual(len(rows), 1)
            self.assertIs(is_coloured(yard, told), True)
            if rows:
                self.assertIsInstance(told, Colours)
                self.assertEqual(told.row, tuple(rows[0][place] for place in range(yard.places)))
            else:
                self.assertIsInstance(told, OddLoop)
                self.assertEqual(len(set(told.places)) % 2, 1)
            self.assertTrue(tuples_alone(list(vars(told).values())[0]))

    def test_all_loops(self):
        for yard, _ in LOOPS:
            pairs = slow_pairs(yard)
            for many in range(1, min(yard.places, 5) + 1):
                for row in itertools.product(range(yard.places), repeat=many):
                    if len(set(row)) == many or many < 4:
                        along = [tuple(sorted(pair)) for pair in zip(row, row[1:] + row[:1])]
                        is_loop = many > 2 and len(set(row)) == many and all(pair in pairs for pair in along)
                        self.assertIs(is_coloured(yard, OddLoop(row)), is_loop and many % 2 == 1)

    def test_all_rows(self):
        for yard in ALL:
            right = colours(yard)
            for row in itertools.product((0, 1), repeat=yard.places):
                is_right = isinstance(right, Colours) and row == right.row
                self.assertIs(is_coloured(yard, Colours(row)), is_right)
                self.assertIs(is_coloured(yard, Colours(tuple(map(bool, row)))), False)
                self.assertIs(is_coloured(yard, Uneven(row)), False)

    def test_any_values(self):
        for yard in YARDS:
            for value in NO_ROWS + ((), (0,), (0, 1, 0, 1, 0, 1, 0, 1), (Odd(),) * yard.places, (0.0,) * yard.places,
                                    (None,) * yard.places, (0, 1, 99), (0, 1, -1), (Odd(),) * 3, ([0], 1, 2), "012"):
                is_right = yard is ALONE and repr(value) == "(0,)"
                self.assertIs(is_coloured(yard, Colours(value)), is_right, repr(value))
                self.assertIs(is_coloured(yard, OddLoop(value)), False, repr(value))
                self.assertIs(is_coloured(yard, value), False, repr(value))
        for value in ((0, 1, 2.0), (0, True, 2), (False, 1, 2), (0, 1, 2, 0), (0, 0, 1)):
            self.assertIs(is_coloured(TRIANGLE, OddLoop(value)), False, repr(value))
        for value in ((0, 1, 2), (2, 1, 0), [1, 0, 2]):
            self.assertIs(is_coloured(TRIANGLE, OddLoop(value)), True, repr(value))


class KindsTest(unittest.TestCase):
    def test_examples(self):
        for yard, block, kind in ((LINE, (0, 1), "tie"), (BOW, (4, 5), "tie"), (SQUARE, (0, 1, 2, 3), "ring"),
                                  (TRIANGLE, [0, 1, 2], "ring"), (BOW, (2, 3, 4), "ring"),
                                  (GRID, (0, 1, 2, 3, 4, 5), "even"),
                                  (DIAMOND, (0, 1, 2, 3), "odd"), (ONE_WAY, (0, 1, 2), "ring"),
                                  (SIX_AND_ONE, (0, 1, 2, 3, 4, 5, 6), "odd")):
            self.assertEqual(block_kind(yard, block), kind)

    def test_all(self):
        found = set()
        for yard in ALL:
            for block in blocks(yard):
                pairs = [pair for pair in slow_pairs(yard) if set(pair) <= set(block)]
                kind = "even" if slow_colours(yard, block) else "odd"
                if len(pairs) == len(block):
                    kind = "ring"
                if len(block) == 2:
                    kind = "tie"
                self.assertEqual(block_kind(yard, block), kind)
                found.add(kind)
        self.assertEqual(len(found), 4)

    def test_colours_of_the_block_alone(self):
        # The triangle hangs on an even block.
        yard = plain(8, (0, 1), (1, 2), (3, 4), (4, 5), (0, 3), (1, 4), (2, 5), (5, 6), (6, 7), (5, 7))
        self.assertIsInstance(colours(yard), OddLoop)
        self.assertEqual(block_kind(yard, (0, 1, 2, 3, 4, 5)), "even")
        self.assertEqual(plain_count(yard), 8 * 60 * 2)


class PlainCountTest(unittest.TestCase):
    def test_examples(self):
        for yard, count in ((LINE, 4), (SQUARE, 12), (TRIANGLE, 6), (DIAMOND, 24), (GRID, 360), (BOW, 24), (ALONE, 1),
                            (SIX_AND_ONE, None), (plain(2, (0, 1)), 2),
                            (plain(7, *[(i, (i + 1) % 7) for i in range(7)]), 42),
                            (plain(8, *[(i, (i + 1) % 8) for i in range(8)], (0, 4)), 8 * math.factorial(7) // 2 * 2),
                            (plain(8, *[(i, (i + 1) % 8) for i in range(8)], (0, 3)), 8 * math.factorial(7) // 2)):
            self.assertEqual(plain_count(yard), count)

    def test_what_is_not_plain_and_linked(self):
        for yard in (BARE, PARTS, ONE_WAY, RING, Yard(1, (), ()), Yard(3, (), ((0, 1, 2),))):
            if yard.places == 1:
                self.assertEqual(plain_count(yard), 1)
            else:
                check_error(self, Unlike, {"what": "plain"}, plain_count, yard)

    def test_fact_c(self):
        dice = random.Random(47)
        for yard in ALL:
            if is_plain(yard) and is_linked(yard) and plain_count(yard) is not None:
                for _ in range(2):
                    stand = dice.sample(range(yard.places), yard.places)
                    self.assertEqual(plain_count(yard), count_of(yard, stand))
                self.assertEqual(plain_count(yard), len(distances(yard, stand)))

    def test_seven_places(self):
        # Of such blocks a few do less: all orders of six things would be 720.
        self.assertEqual(count_of(SIX_AND_ONE, tuple(range(7))), 7 * 120)
        dice = random.Random(48)
        ring = [(i, (i + 1) % 7) for i in range(7)]
        for _ in range(6):
            more = dice.sample([(a, b) for a in range(7) for b in range(a + 2, 7) if (a, b) != (0, 6)], 2)
            self.assertIsNone(plain_count(plain(7, *ring, *more)))
            self.assertIsNone(plain_count(plain(9, *ring, *more, (6, 7), (7, 8))))
        self.assertEqual(plain_count(plain(9, *ring, (6, 7), (7, 8))), 9 * 6)


class EvennessTest(unittest.TestCase):
    def test_examples(self):
        self.assertEqual(evenness(LINE, (0, 1, 2, 3)), 0)
        self.assertEqual(evenness(LINE, [1, 0, 2, 3]), 0)
        self.assertEqual(evenness(LINE, (0, 2, 1, 3)), 1)
        self.assertEqual(evenness(ALONE, (0,)), 0)
        self.assertEqual(evenness(BARE, (0, 9, 5)), 1)

    def test_all(self):
        for yard in ALL:
            if is_plain(yard) and isinstance(colours(yard), Colours) and yard.places < 6:
                row = colours(yard).row
                for stand in itertools.permutations(range(yard.places)):
                    many = len([1 for i, j in itertools.combinations(range(yard.places), 2) if stand[i] > stand[j]])
                    told = evenness(yard, stand)
                    self.assertEqual(told, (many + row[stand.index(0)]) % 2)
                    for _, behind in stands_behind(yard, stand):
                        self.assertEqual(evenness(yard, behind), told)

    def test_errors(self):
        for yard, what in ((ONE_WAY, "plain"), (RING, "plain"), (Yard(3, (), ((0, 1, 2),)), "plain"),
                           (TRIANGLE, "colours"), (PARTS, "colours")):
            for stand in (None, (1, 2, 0), (0, 1, 2, 3)):
                check_error(self, Unlike, {"what": what}, evenness, yard, stand)
                self.assertIsNone(uneven(yard, stand, stand))
        for stand in NO_STANDS + ((1, 2, 3, 4), (1, 2, 0, 0), (1, 1, 2, 0), (0, 0, 0, 0), [1, 0, 2, 1]):
            check_error(self, Unlike, {"what": "stand"}, evenness, LINE, stand)
            self.assertIsNone(uneven(LINE, stand, (0, 1, 2, 3)))
            self.assertIsNone(uneven(LINE, (0, 1, 2, 3), stand))
            self.assertIs(is_uneven(LINE, (0, 1, 2, 3), stand, Uneven((0, 1, 0, 1))), False)
            self.assertIs(is_uneven(LINE, stand, (0, 1, 2, 3), Uneven((0, 1, 0, 1))), False)


class UnevenTest(unittest.TestCase):
    def test_examples(self):
        self.assertEqual(uneven(LINE, (0, 1, 2, 3), [0, 2, 1, 3]).row, (0, 1, 0, 1))
        self.assertIsNone(uneven(LINE, (0, 1, 2, 3), (1, 0, 2, 3)))
        self.assertIsNone(uneven(LINE, (0, 1, 2, 3), (0, 2, 1, 4)))
        self.assertIsNone(uneven(TRIANGLE, (0, 1, 2), (0, 2, 1)))
        for yard in NO_ROWS:
            self.assertIsNone(uneven(yard, (0, 1), (1, 0)))
            self.assertIs(is_uneven(yard, (0, 1), (1, 0), Uneven((0, 1))), False)

    def test_all(self):
        dice = random.Random(49)
        seen = set()
        for yard in ALL:
            things = [7 * thing for thing in range(yard.places)]
            for _ in range(4):
                one, other = (tuple(dice.sample(things, len(things))) for _ in range(2))
                told = uneven(yard, one, other)
                is_such = is_plain(yard) and isinstance(colours(yard), Colours)
                is_wanted = is_such and evenness(yard, one) != evenness(yard, other)
                seen.add(is_wanted)
                self.assertEqual(told is not None, is_wanted)
                if told is not None:
                    self.assertIsInstance(told, Uneven)
                    self.assertEqual(told.row, colours(yard).row)
                    self.assertNotIsInstance(join(yard, one, other), Moves)
                for row in itertools.product((0, 1), repeat=min(yard.places, 6)):
                    is_right = told is not None and row == told.row
                    self.assertIs(is_uneven(yard, list(one), list(other), Uneven(row)), is_right)
                    self.assertIs(is_uneven(yard, one, other, Colours(row)), False)
        self.assertEqual(seen, {True, False})

    def test_any_values(self):
        for one, other in (((0, 1, 2, 3), (0, 2, 1, 3)), ((0, 1, 2, 3), (1, 0, 2, 3)), (None, Odd())):
            for value in NO_ROWS + ((False, True, False, True), (0.0, 1.0, 0.0, 1.0), (0, 1, 0), (0, 1, 0, 1, 0),
                                    (Odd(),) * 4, ("0", "1", "0", "1"), "0101", (0, 1, 0, Odd())):
                self.assertIs(is_uneven(LINE, one, other, Uneven(value)), False, repr(value))
                self.assertIs(is_uneven(LINE, one, other, value), False, repr(value))
        self.assertIs(is_uneven(LINE, (0, 1, 2, 3), (0, 2, 1, 3), Uneven([0, 1, 0, 1])), True)


class SizesTest(unittest.TestCase):
    def test_fourteen_places(self):
        pairs = [(a, b) for a in range(14) for b in range(a + 1, 14) if (a + b) % 2]
        dice = random.Random(50)
        for _ in range(5):
            yard = plain(14, *dice.sample(pairs, 40))
            told = colours(yard)
            self.assertIsInstance(told, Colours)
            self.assertIs(is_coloured(yard, told), True)
            if is_linked(yard):
                self.assertEqual(told.row, (0, 1) * 7)
            for block in blocks(yard):
                self.assertNotEqual(block_kind(yard, block), "odd")
            stand = tuple(range(14))
            other = (0, 2, 1) + stand[3:]
            self.assertIs(is_uneven(yard, stand, other, uneven(yard, stand, other)), True)
        ring = [(i, (i + 1) % 14) for i in range(14)]
        self.assertEqual(plain_count(plain(14, *ring)), 14 * 13)
        self.assertEqual(plain_count(plain(14, *ring, (0, 2))), math.factorial(14))
        self.assertEqual(plain_count(plain(14, *ring, (0, 3))), math.factorial(14) // 2)


if __name__ == "__main__":
    unittest.main()
