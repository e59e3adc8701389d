"""Points [1] and [2] of DOC.md over the whole program: what the layers tell of the same stands."""

import importlib
import inspect
import itertools
import pathlib
import random
import unittest

from samples import distances, stands_behind
from slideyards.chains import size_of
from slideyards.counts import can_all, count_of, counted, is_counted
from slideyards.errors import BadTie, TooMany, YardError
from slideyards.floors import draw, read_floor, reel
from slideyards.joining import Apart, Barred, Moves, is_joined, join, row_of
from slideyards.kinds import home_things, is_settled, leads, moves_for, settle, stand_of
from slideyards.least import NoRow, greatest, is_least_row, layers, least_count, least_row, without_loops
from slideyards.lots import lost_tie, lot_of
from slideyards.made import clear_row, clear_stands, hardest, turned_about
from slideyards.shapes import is_linked, is_plain, is_uneven, plain_count, uneven
from slideyards.texts import Spoken, spoken_of, text_of
from slideyards.workshops import Workshop
from slideyards.yards import Yard, both_ways, filled, is_named, played

FOLDER = pathlib.Path(__file__).resolve().parent.parent / "slideyards"


def drawn_yard(dice):
    """A yard of a few places: plain, with ways, with rings, or with all of these."""
    places = dice.randrange(1, 6)
    pairs = list(itertools.combinations(range(places), 2))
    ties = both_ways(dice.sample(pairs, dice.randrange(min(len(pairs), places + 1) + 1)))
    if dice.randrange(3) == 0:
        ties = dice.sample(ties, dice.randrange(len(ties) + 1))
    rings = [dice.sample(range(places), dice.randrange(3, places + 1))
             for _ in range(dice.choice((0, 0, 0, 1, 2))) if places > 2]
    return Yard(places, ties, rings)


def drawn_cases():
    """Yards, and two stands of the same things each, that often can be come to from one another."""
    dice = random.Random(1)
    while True:
        yard = drawn_yard(dice)
        one = tuple(dice.choice((0, 0, 1, 2, 3, 4, 5)) for _ in range(yard.places))
        if dice.randrange(2):
            one = tuple(dice.sample(range(yard.places), yard.places))
        others = [tuple(dice.sample(one, len(one))), dice.choice(sorted(distances(yard, one)))]
        yield yard, one, dice.choice(others)


CASES = list(itertools.islice(drawn_cases(), 400))
RETURNING = [(yard, one, other) for yard, one, other in CASES if lost_tie(yard, filled(one)) is None]
NAMED = [case for case in RETURNING if is_named(case[1])]


class MainFactTest(unittest.TestCase):
    """Point [1]."""

    def test_there_are_enough(self):
        self.assertGreater(len(NAMED), 100)
        self.assertGreater(len(RETURNING) - len(NAMED), 30)
        self.assertGreater(len(CASES) - len(RETURNING), 10)

    def test_just_one_is_right(self):
        counts = {Moves: 0, Apart: 0, Barred: 0}
        for yard, one, other in NAMED:
            told = join(yard, one, other)
            counts[told.__class__] += 1
            self.assertIs(is_joined(yard, one, other, told), True)
            known = distances(yard, one)
            self.assertIs(isinstance(told, Moves), other in known)
            if other in known:
                self.assertEqual(played(yard, one, row_of(yard, one, other, told)), other)
            if isinstance(told, Apart):
                self.assertNotIn(filled(other), lot_of(yard, filled(one)))
            if isinstance(told, Barred):
                self.assertIn(filled(other), lot_of(yard, filled(one)))
        self.assertGreater(min(counts.values()), 10)

    def test_what_does_not_return(self):
        for yard, one, other in CASES:
            tie = lost_tie(yard, filled(one))
            if tie is not None:
                for call in (settle, *([join] if is_named(one) else [])):
                    with self.assertRaises(BadTie) as caught:
                        call(yard, one, other)
                    self.assertEqual(caught.exception.tie, tie)


class LayersTest(unittest.TestCase):
    """What the layers of the program tell of the same stands."""

    def test_moves_and_least_rows(self):
        for yard, one, other in RETURNING:
            told, least = settle(yard, one, other), least_row(yard, one, other, 6000)
            self.assertIs(is_settled(yard, one, other, told), True)
            self.assertIs(is_least_row(yard, one, other, least), True)
            self.assertIs(leads(told), not isinstance(least, NoRow))
            self.assertIs(leads(told), least_count(yard, one, other, 6000) > 0)
            if leads(told):
                moves = without_loops(yard, one, moves_for(yard, one, other, told))
                self.assertEqual(played(yard, one, moves), other)
                self.assertGreaterEqual(len(moves), len(least.moves))

    def test_counts(self):
        for yard, one, _ in RETURNING:
            rows = layers(yard, one, 6000)
            number = sum(map(len, rows))
            self.assertEqual(count_of(yard, one), number)
            self.assertEqual(greatest(yard, one, number), (len(rows) - 1, rows[-1]))
            with self.assertRaises(TooMany):
                layers(yard, one, number - 1)
            self.assertEqual(sorted({filled(stand) for row in rows for stand in row}), list(lot_of(yard, filled(one))))
            if is_named(one):
                told = counted(yard, one)
                self.assertIs(is_counted(yard, one, told), True)
                self.assertEqual(told.number, number)
                self.assertEqual(number % size_of(told.chain), 0)
                ways = sum(len(set(itertools.permutations(filter(None, one)))) for _ in told.outs.rows)
                self.assertIs(can_all(yard, one), number == ways)
                self.assertEqual(stand_of(yard, told.outs, filled(one), home_things(yard, told.outs, one)), one)

    def test_shapes(self):
        counts = {True: 0, False: 0}
        for yard, one, other in CASES:
            told = uneven(yard, one, other)
            counts[told is None] += 1
            if told is not None:
                self.assertIs(is_uneven(yard, one, other, told), True)
                self.assertIs(leads(settle(yard, one, other)), False)
            if is_plain(yard) and is_linked(yard) and is_named(one) and one.count(0) == 1:
                self.assertEqual(plain_count(yard), count_of(yard, one))
        self.assertGreater(min(counts.values()), 10)

    def test_clear_stands(self):
        for yard, goal, stand in CASES[::3]:
            rows = clear_stands(yard, goal, 6000)
            clear = [item for row in rows for item in row]
            self.assertEqual(stand in clear, least_count(yard, stand, goal, 6000) == 1)
            moves = clear_row(yard, goal, stand, 6000)
            self.assertEqual(moves is not None, stand in clear)
            if moves is not None:
                self.assertEqual(moves, least_row(yard, stand, goal, 6000).moves)
                self.assertIn(stand, rows[len(moves)])
            far, last = hardest(yard, goal, 6000)
            self.assertEqual(rows[far], last)
            self.assertEqual(len(layers(turned_about(yard), goal, 6000)), len(rows))

    def test_floors(self):
        dice = random.Random(2)
        for _ in range(40):
            lines = ["".join(dice.choice("#..123ab") for _ in range(dice.randrange(1, 4))) for _ in range(3)]
            if "".join(lines).strip("#"):
                floor = read_floor("\n".join(lines))
                self.assertIs(is_plain(floor.yard), True)
                self.assertEqual(read_floor(draw(floor.spots, floor.stand)).stand, floor.stand)
                found = stands_behind(floor.yard, floor.stand)
                for move, behind in found[:2]:
                    text = reel(floor, floor.stand, (move,))
                    self.assertEqual(text, draw(floor.spots, floor.stand) + "\n" + draw(floor.spots, behind))
                    self.assertIs(leads(settle(floor.yard, floor.stand, behind)), True)

    def test_workshops(self):
        for yard, one, other in CASES[::4]:
            spoken = Spoken("place", yard, (("one", one), ("other", other)))
            shop = Workshop(text_of(spoken))
            self.assertTrue(shop.get("place").yard == yard)
            self.assertEqual(shop.get("place").stands, spoken_of(text_of(spoken))[0].stands)
            if lost_tie(yard, filled(one)) is None:
                told = shop.answer("place", "one", "other")
                self.assertIs(is_settled(yard, one, other, told), True)
                self.assertEqual(shop.many("place", "one"), len(distances(yard, one)))
                word = "to" if leads(told) else "never"
                shop.keep(f"place one {word} other")
                self.assertEqual(shop.promises(), (f"place one {word} other",))
            else:
                with self.assertRaises(BadTie):
                    shop.keep("place one to other")


class ProgramTest(unittest.TestCase):
    """Point [2]."""

    def classes(self):
        for file in FOLDER.glob("*.py"):
            module = importlib.import_module(f"slideyards.{file.stem}")
            for _, found in inspect.getmembers(module, inspect.isclass):
                if found.__module__ == module.__name__:
                    yield found

    def test_yards_alone_compare(self):
        for found in self.classes():
            if found.__name__ != "Yard":
                self.assertNotIn("__eq__", vars(found), found)

    def test_errors(self):
        for found in self.classes():
            if issubclass(found, Exception):
                self.assertEqual(found.__module__, "slideyards.errors")
                self.assertEqual(found.__bases__, (ValueError,) if found is YardError else (YardError,))


if __name__ == "__main__":
    unittest.main()
