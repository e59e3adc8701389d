"""Points [58] and [59] of DOC.md, and what [2] says of them."""

import random
import unittest

from samples import (NO_COUNTS, NO_ROWS, NO_STANDS, Odd, check_error, check_interface, check_kept, random_moves,
                     tuples_alone)
from slideyards import floors
from slideyards.errors import BadLine, BadMove, BadRow
from slideyards.floors import Floor, draw, read_floor, reel
from slideyards.yards import Yard, both_ways, filled, played

TEXT = "12.\n#a#\n..z"
SIGNS = ".123456789abcdefghijklmnopqrstuvwxyz"


def beside(spots):
    """The pairs of places on spots beside one another, or one below the other."""
    return [(i, j) for i, (line, column) in enumerate(spots) for j, (other, place) in enumerate(spots)
            if (line == other and place - column == 1) or (column == place and other - line == 1)]


def drawn_spots(dice):
    """An ascending row of unlike spots, one at least."""
    lines, columns = dice.randrange(1, 9), dice.randrange(1, 9)
    all_spots = [(line, column) for line in range(lines) for column in range(columns)]
    return tuple(sorted(dice.sample(all_spots, dice.randrange(1, min(len(all_spots), 12) + 1))))


class InterfaceTest(unittest.TestCase):
    def test_names_and_arguments(self):
        check_interface(self, floors, {
            "read_floor": "text", "Floor": "spots yard stand", "draw": "spots stand", "reel": "floor stand moves"})

    def test_floor(self):
        check_kept(self, Floor, ["spots", "yard", "stand"])


class ReadTest(unittest.TestCase):
    def test_example(self):
        floor = read_floor(TEXT)
        self.assertIsInstance(floor, Floor)
        self.assertEqual(floor.spots, ((0, 0), (0, 1), (0, 2), (1, 1), (2, 0), (2, 1), (2, 2)))
        self.assertTrue(floor.yard == Yard(7, both_ways([(0, 1), (1, 2), (1, 3), (3, 5), (4, 5), (5, 6)]), ()))
        self.assertEqual(floor.stand, (1, 2, 0, 10, 0, 0, 35))
        self.assertTrue(tuples_alone(floor.spots) and tuples_alone(floor.stand))

    def test_signs(self):
        floor = read_floor(SIGNS)
        self.assertEqual(floor.stand, tuple(range(36)))
        self.assertEqual(floor.yard.ties, both_ways([(i, i + 1) for i in range(35)]))

    def test_lines(self):
        for text, spots in ((".", ((0, 0),)), (".\n", ((0, 0),)), ("\n\n.\n\n", ((2, 0),)), ("#.\n.", ((0, 1), (1, 0))),
                            ("...\n\n.", ((0, 0), (0, 1), (0, 2), (2, 0))), ("#\n##.#\n#", ((1, 2),)),
                            (".\n.#.\n..", ((0, 0), (1, 0), (1, 2), (2, 0), (2, 1)))):
            for whole in (text, text + "\n", text + "\n#"):
                floor = read_floor(whole)
                self.assertEqual(floor.spots, spots)
                self.assertEqual(floor.yard.places, len(spots))
                self.assertEqual(floor.yard.ties, both_ways(beside(spots)))
                self.assertEqual(floor.yard.rings, ())
                self.assertEqual(floor.stand, (0,) * len(spots))

    def test_what_is_no_string(self):
        for value in NO_ROWS + (("..",), [".", "1"], b"..", bytearray(b".")):
            if not isinstance(value, str):
                check_error(self, BadLine, {"line": 0, "column": 0}, read_floor, value)

    def test_without_a_place(self):
        for text in ("", "\n", "#", "###\n##", "#\n", "\n\n\n", "\n#"):
            check_error(self, BadLine, {"line": 1, "column": 1}, read_floor, text)

    def test_wrong_signs(self):
        for sign in "0 ABZ-_*@[`{~/:\t\r\"\\\x00\u00e9\u0660\u00b2":
            for text, line, column in ((sign, 1, 1), ("." + sign, 1, 2), ("..\n#" + sign + ".\n" + sign, 2, 2),
                                       ("\n\n" + sign, 3, 1), ("##\n##\n###" + sign + "\n", 3, 4),
                                       ("1" + sign + sign, 1, 2)):
                check_error(self, BadLine, {"line": line, "column": column}, read_floor, text)


class DrawTest(unittest.TestCase):
    def test_examples(self):
        floor = read_floor(TEXT)
        self.assertEqual(draw(floor.spots, floor.stand), "12.\n#a#\n..z\n")
        self.assertEqual(draw([[0, 0], [2, 3]], [1, 35]), "1###\n####\n###z\n")
        self.assertEqual(draw(((1, 1),), (0,)), "##\n#.\n")
        self.assertEqual(draw((), ()), "")

    def test_all(self):
        dice = random.Random(58)
        for _ in range(300):
            spots = drawn_spots(dice)
            stand = tuple(dice.choice((0, 0, dice.randrange(36))) for _ in spots)
            text = draw(spots, stand)
            lines = text.split("\n")
            self.assertEqual(lines.pop(), "")
            self.assertEqual(len(lines), max(spots)[0] + 1)
            self.assertEqual({len(line) for line in lines}, {max(column for _, column in spots) + 1})
            things = dict(zip(spots, stand))
            for line, signs in enumerate(lines):
                for column, sign in enumerate(signs):
                    self.assertEqual(sign, SIGNS[things[(line, column)]] if (line, column) in things else "#")
            floor = read_floor(text)
            self.assertEqual((floor.spots, floor.stand), (spots, stand))
            self.assertEqual(floor.yard.ties, both_ways(beside(spots)))
            self.assertEqual(read_floor(text[:-1]).stand, stand)

    def test_wrong_stands(self):
        spots = ((0, 0), (0, 1), (1, 1), (2, 0))
        for stand in NO_STANDS + ((0, 36, 0, 0), [1, 2, 3, 99], (0, 0, 0, -1)):
            check_error(self, BadRow, {"row": stand}, draw, spots, stand)
        for number in NO_COUNTS + (36, 100):
            check_error(self, BadRow, {"row": (number,)}, draw, ((0, 0),), (number,))


class ReelTest(unittest.TestCase):
    def test_example(self):
        floor = read_floor("1.\n#.")
        moves = (("slide", 0, 1), ("slide", 1, 2))
        self.assertEqual(reel(floor, [5, 0, 0], list(moves)), "5.\n#.\n\n.5\n#.\n\n..\n#5\n")
        self.assertEqual(reel(floor, (0, 0, 35), ()), "..\n#z\n")

    def test_all(self):
        dice = random.Random(59)
        for _ in range(50):
            spots = drawn_spots(dice)
            stand = tuple(dice.choice((0, dice.randrange(36))) for _ in spots)
            floor = read_floor(draw(spots, stand))
            moves = random_moves(dice, floor.yard, filled(stand), 6)
            pictures = [draw(spots, played(floor.yard, stand, moves[:at])) for at in range(len(moves) + 1)]
            self.assertEqual(reel(floor, stand, moves), "\n".join(pictures))

    def test_rings(self):
        floor = Floor([[0, 0], [0, 1], [1, 1]], Yard(3, (), ((0, 1, 2),)), None)
        self.assertEqual(reel(floor, (1, 2, 0), (("turn", 0),)), "12\n#.\n\n.1\n#2\n")

    def test_errors(self):
        floor = read_floor("....")
        for stand in NO_STANDS:
            check_error(self, BadRow, {"row": stand}, reel, floor, stand, (None,))
        good = (("slide", 0, 1), ("slide", 1, 0))
        for bad in (("slide", 1, 0), ("slide", 0, 2), ("turn", 0), ["slide", 0, 1], None, Odd()):
            for stand in ((5, 0, 0, 0), [36, 0, 0, 0]):
                check_error(self, BadMove, {"index": 2}, reel, floor, stand, good + (bad,))
        for stand in ((36, 0, 0, 0), [99, 0, 0, 0], (100, 0, 0, 0)):
            for moves in ((), good):
                check_error(self, BadRow, {"row": stand}, reel, floor, stand, moves)

    def test_sizes(self):
        floor = read_floor("........\n..\n.\n.\n" + "#\n" * 4)
        self.assertEqual(floor.yard.places, 12)
        dice = random.Random(60)
        moves = random_moves(dice, floor.yard, (0, 1, 2), 400)
        text = reel(floor, (1, 2, 3) + (0,) * 9, moves)
        self.assertEqual(text.count("\n\n"), 400)


if __name__ == "__main__":
    unittest.main()
