"""Points [33] to [37] of DOC.md, the main fact of [1], and what [2] says of them."""

import itertools
import random
import unittest

from samples import (BARE, FALL, GRID, LIFT, LINE, NO_FILLED_ROWS, NO_ROWS, NO_STANDS, PARTS, RINGS, SQUARE, THETA,
                     WHEEL, Odd, check_error, check_interface, check_kept, distances, other_outs, stand_with,
                     tuples_alone)
from slideyards import joining
from slideyards.chains import Chain, chain_of, is_chain, stops_at
from slideyards.errors import BadRow, BadTie, TooMany, Unlike
from slideyards.joining import Apart, Barred, Moves, is_joined, join, row_of, wanted, way_back
from slideyards.lines import values_of, with_product, written
from slideyards.lots import Outs, are_outs, lot_of, outs_of
from slideyards.rounds import bearing, given_of, round_moves, rounds_of, unlike_rounds
from slideyards.yards import Yard, both_ways, filled, played

TRIANGLE = Yard(3, (), ((0, 1, 2),))
PLACED = ((LINE, (0, 2)), (LINE, (1,)), (LINE, ()), (LINE, (0, 1, 2, 3)), (SQUARE, (0, 1, 3)), (SQUARE, (1, 2)),
          (TRIANGLE, (0, 1, 2)), (TRIANGLE, (1, 2)), (THETA, (1, 2, 3, 4, 5)), (THETA, (0, 4, 5)),
          (GRID, (0, 1, 2, 3, 4)),
          (WHEEL, (1, 2, 3, 4)), (WHEEL, (1, 3)), (LIFT, (0, 2)), (LIFT, (0, 2, 3)), (RINGS, (0, 1, 4)),
          (RINGS, (0, 1, 2, 3, 4)), (RINGS, ()), (BARE, (1, 2)), (PARTS, (0, 2, 4)), (PARTS, (2, 3)))


def stands_like(yard, stand):
    """All stands of the yard with the same things."""
    return sorted(set(itertools.permutations(stand)))


def words_from(given, m):
    """For each product of given permutations numbers of them that make it."""
    words = {tuple(range(m)): ()}
    waiting = list(words)
    for now in waiting:
        for number, item in enumerate(given):
            then = tuple(item[place] for place in now)
            if then not in words:
                words[then] = words[now] + (number,)
                waiting.append(then)
    return words


def cases():
    """A yard, a stand, and some others of the same things, those that can be come to told."""
    dice = random.Random(33)
    for yard, row in PLACED:
        stand = stand_with(yard, row, dice.sample(range(1, 100), len(row)))
        known = distances(yard, stand)
        others = stands_like(yard, stand)
        for other in [stand] + dice.sample(others, min(len(others), 25)):
            yield yard, stand, other, other in known


CASES = list(cases())
TOLD = [(yard, one, other, join(yard, one, other)) for yard, one, other, _ in CASES]
MOVES = [case for case in TOLD if isinstance(case[3], Moves)]
BARRED = [case for case in TOLD if isinstance(case[3], Barred)]
APART = [case for case in TOLD if isinstance(case[3], Apart)]

# Of any kinds, and with attributes of any kinds.
NO_PAPERS = NO_ROWS + tuple(kind(*[value] * many) for kind, many in ((Moves, 3), (Apart, 1), (Barred, 3), (Chain, 2))
                            for value in NO_ROWS + ((), ((),), (Odd(),)))


class InterfaceTest(unittest.TestCase):
    def test_names_and_arguments(self):
        check_interface(self, joining, {
            "wanted": "yard outs one other", "join": "yard one other", "is_joined": "yard one other told",
            "way_back": "yard outs row", "row_of": "yard one other told", "Moves": "outs lines last",
            "Apart": "rows", "Barred": "outs chain level"})

    def test_papers(self):
        check_kept(self, Moves, ["outs", "lines", "last"])
        check_kept(self, Apart, ["rows"])
        check_kept(self, Barred, ["outs", "chain", "level"])


class WantedTest(unittest.TestCase):
    def test_examples(self):
        outs = outs_of(LINE, (0, 1))
        self.assertEqual(wanted(LINE, outs, (7, 9, 0, 0), (0, 9, 0, 7)), (1, 0))
        self.assertEqual(wanted(LINE, outs, [7, 9, 0, 0], [0, 7, 0, 9]), (0, 1))
        outs = outs_of(RINGS, (0, 1, 2, 3, 4))
        self.assertEqual(wanted(RINGS, outs, (5, 6, 7, 8, 9), (9, 5, 6, 7, 8)), (1, 2, 3, 4, 0))
        self.assertEqual(wanted(BARE, outs_of(BARE, ()), (0, 0, 0), (0, 0, 0)), ())
        outs = outs_of(LINE, (0, 1))
        outs = Outs(list(outs.home), [list(row) for row in outs.rows], [list(way) for way in outs.ways])
        self.assertEqual(wanted(LINE, outs, (7, 9, 0, 0), (0, 9, 0, 7)), (1, 0))

    def test_by_its_words(self):
        dice = random.Random(1)
        for yard, one, other, told in MOVES + BARRED:
            for outs in (told.outs, other_outs(dice, yard, filled(one))):
                row = wanted(yard, outs, one, other)
                here, there = bearing(yard, outs, filled(one)), bearing(yard, outs, filled(other))
                self.assertEqual([one[place] for place in here], [other[there[then]] for then in row])
                self.assertTrue(tuples_alone(row))

    def test_what_is_no_such_stand(self):
        outs = outs_of(SQUARE, (0, 1))
        good = (0, 3, 5, 0)
        for stand in NO_STANDS + ((0, 0, 0, 0), (0, 3, 0, 0), (1, 2, 3, 0), (3, 3, 0, 0), [3, 3, 0, 0]):
            check_error(self, BadRow, {"row": stand}, wanted, SQUARE, outs, stand, None)
            check_error(self, BadRow, {"row": stand}, wanted, SQUARE, outs, good, stand)
        for stand in ((3, 6, 0, 0), [1, 2, 0, 0]):
            check_error(self, BadRow, {"row": stand}, wanted, SQUARE, outs, good, stand)
        outs = outs_of(PARTS, (0, 2))
        stand = (0, 0, 1, 0, 2)
        check_error(self, BadRow, {"row": stand}, wanted, PARTS, outs, stand, None)
        check_error(self, BadRow, {"row": stand}, wanted, PARTS, outs, (1, 0, 2, 0, 0), stand)

    def test_fact_a(self):
        for yard, one, other, is_known in CASES:
            if filled(other) in lot_of(yard, filled(one)):
                outs = outs_of(yard, filled(one))
                given = given_of(rounds_of(yard, outs))
                row = wanted(yard, outs, one, other)
                self.assertEqual(row in words_from(given, len(row)), is_known)


class JoinTest(unittest.TestCase):
    def test_examples(self):
        told = join(LINE, (7, 0, 9, 0), (0, 7, 0, 9))
        self.assertEqual((told.lines, told.last), ((), None))
        told = join(LINE, (7, 0, 9, 0), (9, 7, 0, 0))
        self.assertIsInstance(told, Barred)
        self.assertEqual(told.level, 0)
        self.assertEqual(join(BARE, [1, 2, 0], [0, 2, 1]).rows, ((0, 1),))
        told = join(PARTS, (1, 2, 0, 3, 0), (1, 2, 0, 0, 3))
        self.assertEqual(told.outs.rows, ((0, 1, 2), (0, 1, 3), (0, 1, 4)))

    def test_there_are_all_kinds(self):
        for some in (MOVES, BARRED, APART):
            self.assertGreater(len(some), 20)
        self.assertGreater(len([told for _, _, _, told in MOVES if told.last is None]), 20)

    def test_main_fact(self):
        for (yard, one, other, is_known), (_, _, _, told) in zip(CASES, TOLD):
            is_apart = filled(other) not in lot_of(yard, filled(one))
            kind = Moves if is_known else Apart if is_apart else Barred
            self.assertIs(told.__class__, kind, (yard.ties, yard.rings, one, other))
            self.assertIs(is_joined(yard, one, other, told), True)
            self.assertIs(is_joined(yard, list(one), list(other), told), True)

    def test_moves(self):
        for yard, one, other, told in MOVES:
            self.assertTrue(are_outs(yard, filled(one), told.outs) and tuples_alone(told.lines))
            row = wanted(yard, told.outs, one, other)
            given = given_of(rounds_of(yard, told.outs))
            if told.last is None:
                self.assertEqual(row, tuple(range(len(row))))
            else:
                self.assertEqual(values_of(given, told.lines)[told.last], row)

    def test_apart_and_barred(self):
        for yard, one, other, told in APART:
            self.assertEqual(told.rows, lot_of(yard, filled(one)))
        for yard, one, other, told in BARRED:
            self.assertTrue(are_outs(yard, filled(one), told.outs))
            row = wanted(yard, told.outs, one, other)
            given = given_of(rounds_of(yard, told.outs))
            self.assertTrue(is_chain(len(row), given, told.chain))
            self.assertEqual(stops_at(given, told.chain, row), told.level)

    def test_like_arguments(self):
        for yard, one, other, told in TOLD[::9]:
            again = join(Yard(yard.places, yard.ties, yard.rings), list(one), list(other))
            self.assertEqual([repr(vars(value) if isinstance(value, (Outs, Chain)) else value)
                              for value in vars(told).values()],
                             [repr(vars(value) if isinstance(value, (Outs, Chain)) else value)
                              for value in vars(again).values()])


class ErrorsTest(unittest.TestCase):
    """Those of join, which is_joined and row_of raise, too."""

    def check(self, kind, fields, yard, one, other):
        check_error(self, kind, fields, join, yard, one, other)
        for told in (None, Odd(), Moves(1, 2, 3), Apart(()), 5):
            check_error(self, kind, fields, is_joined, yard, one, other, told)
            check_error(self, kind, fields, row_of, yard, one, other, told)

    def test_what_is_no_named_stand(self):
        for stand in NO_STANDS + ((1, 1, 0, 0), [2, 0, 2, 1]):
            self.check(BadRow, {"row": stand}, LINE, stand, None)
            self.check(BadRow, {"row": stand}, LINE, (1, 0, 0, 0), stand)
            self.check(BadRow, {"row": stand}, FALL, (1, 0, 0, 0), stand)

    def test_unlike_things(self):
        for one, other in (((1, 0, 0, 0), (2, 0, 0, 0)), ((1, 0, 0, 0), [1, 0, 2, 0]), ((0, 0, 0, 0), (0, 0, 0, 1))):
            self.check(Unlike, {"what": "things"}, LINE, one, other)
            self.check(Unlike, {"what": "things"}, FALL, one, other)

    def test_lots_that_do_not_come_back(self):
        for other in ((1, 0, 2, 0), [0, 0, 1, 2]):
            self.check(BadTie, {"tie": (0, 1)}, FALL, (1, 0, 2, 0), other)
        self.check(BadTie, {"tie": (1, 2)}, FALL, [0, 1, 0, 0], [1, 0, 0, 0])
        # From below nothing is lost, and the other stand lies apart.
        self.assertIsInstance(join(FALL, (0, 0, 1, 0), (1, 0, 0, 0)), Apart)
        self.check(BadTie, {"tie": (0, 1)}, FALL, (1, 0, 0, 0), (0, 0, 1, 0))


class JoinedTest(unittest.TestCase):
    """What is_joined takes, and what not."""

    def test_any_values(self):
        for yard, one, other, _ in (MOVES[0], MOVES[-1], BARRED[0], BARRED[-1], APART[0], APART[-1]):
            for told in NO_PAPERS:
                self.assertIs(is_joined(yard, one, other, told), False, repr(told))

    def test_papers_of_other_stands(self):
        for yard, one, other, told in TOLD:
            for kind in (Moves, Apart, Barred):
                if not isinstance(told, kind):
                    for paper in [case[3] for case in TOLD if isinstance(case[3], kind)][::12]:
                        self.assertIs(is_joined(yard, one, other, paper), False)

    def test_moves_with_other_outs_and_lines(self):
        dice = random.Random(2)
        for yard, one, other, _ in MOVES[::4]:
            outs = other_outs(dice, yard, filled(one))
            row, given = wanted(yard, outs, one, other), given_of(rounds_of(yard, outs))
            word = words_from(given, len(row))[row]
            lines = with_product(tuple(("given", number) for number in word), tuple(range(len(word)))) if word else ()
            # A line behind the last one is free.
            more = lines + ((("back", 0),) if lines else ())
            paper = Moves(outs, more, len(lines) - 1 if word else None)
            self.assertIs(is_joined(yard, one, other, paper), True)
            self.assertEqual(played(yard, one, row_of(yard, one, other, paper)), other)
            for bad in (len(more), -1, True, 0.0, "0", Odd(), None if word else 0.5):
                self.assertIs(is_joined(yard, one, other, Moves(outs, more, bad)), False, repr(bad))

    def test_the_identity(self):
        yard, one, other = SQUARE, (1, 2, 0, 3), (1, 2, 3, 0)
        outs = outs_of(yard, (0, 1, 3))
        self.assertEqual(wanted(yard, outs, one, other), (0, 1, 2))
        lines = (("given", 0), ("back", 0), ("times", 0, 1))
        for told in (Moves(outs, (), None), Moves(outs, lines, None), Moves(outs, lines, 2)):
            self.assertIs(is_joined(yard, one, other, told), True)
            self.assertEqual(played(yard, one, row_of(yard, one, other, told)), other)
        for told in (Moves(outs, lines, 0), Moves(outs, (), 0), Moves(outs, lines[1:], None),
                     Moves(outs, (("given", 99),), None), Moves(outs, lines[:2] + (["times", 0, 1],), None)):
            self.assertIs(is_joined(yard, one, other, told), False)
        # None stands for the identity alone.
        self.assertIs(is_joined(yard, one, (2, 3, 1, 0), Moves(outs, (), None)), False)

    def test_one_thing_changed_in_outs(self):
        for yard, one, other, told in MOVES[::5] + BARRED[::5]:
            outs = told.outs
            rows, ways = outs.rows, outs.ways
            rest = (told.lines, told.last) if isinstance(told, Moves) else (told.chain, told.level)
            changed = [None, (outs.home, rows, ways), Outs(outs.home, rows[:-1], ways[:-1]),
                       Outs(outs.home + (yard.places,), rows, ways), Outs(outs.home, rows, ways[:-1]),
                       Outs(outs.home, rows, ways[:-1] + ((("slide", 0, 0),),)),
                       Outs(outs.home, rows, ways[:-1] + (list(ways[-1]),)),
                       Outs(outs.home, rows[:-1] + (list(rows[-1]),), ways)]
            for item in changed:
                self.assertIs(is_joined(yard, one, other, told.__class__(item, *rest)), False)

    def test_other_barred(self):
        dice = random.Random(3)
        for yard, one, other, told in BARRED:
            given = given_of(rounds_of(yard, told.outs))
            row = wanted(yard, told.outs, one, other)
            lines = told.chain.lines + ((("given", 0),) if given else ())
            self.assertIs(is_joined(yard, one, other, Barred(told.outs, Chain(lines, told.chain.levels), told.level)),
                          True)
            levels = [list(level) for level in told.chain.levels]
            for chain in (Chain(lines, levels), Chain(list(lines) + [5], told.chain.levels), None,
                          Chain(lines, told.chain.levels[:-1]), Chain((["given", 0],) + lines, told.chain.levels)):
                self.assertIs(is_joined(yard, one, other, Barred(told.outs, chain, told.level)), False)
            for level in (None, -1, len(row), told.level + 1, bool(told.level), float(told.level), Odd()):
                self.assertIs(is_joined(yard, one, other, Barred(told.outs, told.chain, level)), False)
            # A chain of fewer rounds bars too much.
            if given:
                least = Chain((), [((level, None),) for level in range(len(row))])
                self.assertIs(is_joined(yard, one, other, Barred(told.outs, least, 0)), False)
            outs = other_outs(dice, yard, filled(one))
            chain = chain_of(len(row), given_of(rounds_of(yard, outs)))
            level = stops_at(given_of(rounds_of(yard, outs)), chain, wanted(yard, outs, one, other))
            self.assertIs(is_joined(yard, one, other, Barred(outs, chain, level)), True)

    def test_barred_where_moves_lead(self):
        for yard, one, other, told in MOVES:
            given = given_of(rounds_of(yard, told.outs))
            chain = [paper.chain for place, one_, _, paper in BARRED if (place, one_) == (yard, one)]
            for item in chain[:1]:
                for level in range(len(filled(one))):
                    self.assertIs(is_joined(yard, one, other, Barred(told.outs, item, level)), False)
            self.assertIs(is_joined(yard, one, other, Moves(told.outs, (("given", len(given)),), 0)), False)

    def test_apart(self):
        for yard, one, other, told in APART:
            rows = told.rows
            for item in (rows[:-1], rows + (filled(other),), rows[::-1] if len(rows) > 1 else None, list(rows) + [None],
                         [list(row) for row in rows], [tuple(map(float, row)) for row in rows] + [(0.0,)]):
                self.assertIs(is_joined(yard, one, other, Apart(item)), False)
            self.assertIs(is_joined(yard, one, other, Apart(list(rows))), True)
        for yard, one, other, told in MOVES[::5] + BARRED[::5]:
            rows = lot_of(yard, filled(one))
            self.assertIs(is_joined(yard, one, other, Apart(rows)), False)
            self.assertIs(is_joined(yard, one, other, Apart(tuple(row for row in rows if row != filled(other)))), False)
        # True is equal to the place 1, but is none.
        yard = Yard(3, both_ways([(1, 2)]), ())
        self.assertIs(is_joined(yard, (0, 5, 0), (5, 0, 0), Apart(((1,), (2,)))), True)
        self.assertIs(is_joined(yard, (0, 5, 0), (5, 0, 0), Apart(((True,), (2,)))), False)


class RowsTest(unittest.TestCase):
    def test_way_back(self):
        dice = random.Random(4)
        for yard, row in PLACED:
            for outs in (outs_of(yard, row), other_outs(dice, yard, row)):
                for item in outs.rows:
                    places = bearing(yard, outs, item)
                    stand = stand_with(yard, places, range(1, len(places) + 1))
                    moves = way_back(yard, outs, list(item))
                    self.assertTrue(tuples_alone(moves))
                    self.assertEqual(played(yard, stand, moves),
                                     stand_with(yard, outs.home, range(1, len(places) + 1)))

    def test_rows_that_are_none(self):
        outs = outs_of(LINE, (1,))
        for row in NO_FILLED_ROWS + ((), (0, 1), [0, 1], (4,)):
            check_error(self, BadRow, {"row": row}, way_back, LINE, outs, row)

    def test_row_of(self):
        for yard, one, other, told in MOVES:
            moves = row_of(yard, list(one), list(other), told)
            self.assertTrue(tuples_alone(moves))
            self.assertEqual(played(yard, one, moves), other)
            self.assertLess(len(moves), 5000)

    def test_parts(self):
        for yard, one, other, told in MOVES:
            numbers = unlike_rounds(rounds_of(yard, told.outs))
            made = [round_moves(yard, told.outs, number) for number in numbers]
            lines = () if told.last is None else told.lines[:told.last + 1]
            middle = written([forth for forth, _ in made], [about for _, about in made], lines, 10000)
            wanted_row = (way_back(yard, told.outs, filled(one)) + middle
                          + told.outs.ways[told.outs.rows.index(filled(other))])
            self.assertEqual(row_of(yard, one, other, told), wanted_row)

    def told_with(self, many):
        """A Moves that makes the round of a ring's turn, of one move, so many times."""
        lines = [("given", 0)]
        last = 0
        for figure in bin(many)[3:]:
            lines.append(("times", last, last))
            if figure == "1":
                lines.append(("times", len(lines) - 1, 0))
            last = len(lines) - 1
        return Moves(outs_of(TRIANGLE, (0, 1, 2)), lines, last)

    def test_too_many_moves(self):
        one, stands = (7, 8, 9), {0: (7, 8, 9), 1: (9, 7, 8), 2: (8, 9, 7)}
        self.assertEqual(len(round_moves(TRIANGLE, outs_of(TRIANGLE, (0, 1, 2)), 0)[0]), 1)
        for many in (1, 2, 5, 12, 199999, 200000):
            told = self.told_with(many)
            self.assertIs(is_joined(TRIANGLE, one, stands[many % 3], told), True)
            self.assertEqual(row_of(TRIANGLE, one, stands[many % 3], told), (("turn", 0),) * many)
        for many in (200001, 200002, 3 ** 40):
            told = self.told_with(many)
            self.assertIs(is_joined(TRIANGLE, one, stands[many % 3], told), True)
            check_error(self, TooMany, {"most": 200000}, row_of, TRIANGLE, one, stands[many % 3], told)

    def test_the_ways_count_too(self):
        outs = Outs((0, 1, 2), ((0, 1, 2),), ((("turn", 0),) * 3,))
        self.assertEqual(len(round_moves(TRIANGLE, outs, 0)[0]), 4)
        one = (7, 8, 9)
        told = self.told_with(49999)
        told = Moves(outs, told.lines, told.last)
        self.assertEqual(len(row_of(TRIANGLE, one, (9, 7, 8), told)), 199999)
        told = self.told_with(50000)
        told = Moves(outs, told.lines, told.last)
        self.assertIs(is_joined(TRIANGLE, one, (8, 9, 7), told), True)
        check_error(self, TooMany, {"most": 200000}, row_of, TRIANGLE, one, (8, 9, 7), told)
        # All moves stand in one way, just as many as there may be; then more.
        yard, many = Yard(4, (), ((0, 1, 2, 3),)), 200000
        outs = Outs((0, 1, 2, 3), ((0, 1, 2, 3),), ((("turn", 0),) * many,))
        self.assertEqual(len(row_of(yard, (1, 2, 3, 4), (1, 2, 3, 4), Moves(outs, (), None))), many)
        outs = Outs((0, 1, 2), ((0, 1, 2),), ((("turn", 0),) * 200001,))
        check_error(self, TooMany, {"most": 200000}, row_of, TRIANGLE, one, one, Moves(outs, (), None))

    def test_arguments_stay(self):
        one, other = [1, 0, 2, 3], [2, 3, 1, 0]
        told = join(SQUARE, one, other)
        self.assertTrue(is_joined(SQUARE, one, other, told))
        row_of(SQUARE, one, other, told)
        wanted(SQUARE, told.outs, one, other)
        self.assertEqual((one, other), ([1, 0, 2, 3], [2, 3, 1, 0]))


class SizesTest(unittest.TestCase):
    def check_some(self, yard, row, many):
        dice = random.Random(37)
        rows = lot_of(yard, row)
        one = stand_with(yard, row, range(1, len(row) + 1))
        for _ in range(many):
            other = stand_with(yard, dice.choice(rows), dice.sample(range(1, len(row) + 1), len(row)))
            told = join(yard, one, other)
            self.assertIs(is_joined(yard, one, other, told), True)
            if isinstance(told, Moves):
                self.assertEqual(played(yard, one, row_of(yard, one, other, told)), other)

    def test_nine_places(self):
        dice = random.Random(38)
        pairs = [(a, b) for a in range(9) for b in range(9) if a != b]
        yard = Yard(9, dice.sample(pairs, 60), [dice.sample(range(9), length) for length in (3, 4, 5, 6, 9, 9)])
        for many in (1, 3, 6, 7, 8, 9):
            self.check_some(yard, tuple(range(many)), 2)

    def test_one_way_round(self):
        yard = Yard(9, tuple((i, (i + 1) % 9) for i in range(9)) + ((0, 2), (3, 6)), ())
        for many in (3, 6, 7, 8):
            self.check_some(yard, tuple(range(many)), 3)

    def test_plain_grid(self):
        yard = Yard(9, both_ways([(a, a + 1) for a in range(9) if a % 3 < 2] + [(a, a + 3) for a in range(6)]), ())
        for many in (2, 7, 8):
            self.check_some(yard, tuple(range(many)), 3)


if __name__ == "__main__":
    unittest.main()
