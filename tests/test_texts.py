"""Points [3] to [7] of DOC.md, and what [2] says of them."""

import inspect
import random
import re
import unittest

from slideyards import texts
from slideyards.errors import BadLine, BadText
from slideyards.texts import Spoken, promise_of, promise_text, spoken_of, text_of
from slideyards.yards import Yard, both_ways, is_stand

NO_STRINGS = (None, 5, True, b"yard a", ["yard a"], ("yard a",), {}, 0.5, object())

FULL = """
  yard   first_1
places 5

ring 0 1 2
   tie 0 1 2 3
stand one 1 . . 12 99
way 4 0 4 3
tie 1 0
     \n\
ring 4 3 2 1 0
way 0 1
 stand  two.....
stand three 7.7 .7
end
yard b
 places 1
end
"""


def wrong_at(text):
    try:
        spoken_of(text)
    except BadLine as wrong:
        return wrong.line, wrong.column
    return None


def parts(spoken):
    return spoken.name, spoken.yard, spoken.stands


class SpokenTest(unittest.TestCase):
    def test_interface(self):
        for function, names in ((Spoken, ["name", "yard", "stands"]), (spoken_of, ["text"]),
                                (text_of, ["spoken"]), (promise_of, ["text"]),
                                (promise_text, ["promise"])):
            self.assertEqual(list(inspect.signature(function).parameters), names)
            self.assertEqual(function.__module__, texts.__name__)

    def test_keeps_what_it_is_given(self):
        yard = Yard(2, (), ())
        spoken = Spoken("a", yard, (("s", (0, 1)),))
        self.assertEqual(parts(spoken), ("a", yard, (("s", (0, 1)),)))
        self.assertIs(spoken.yard, yard)
        for value in (None, 5, {"a": 1}, object(), (1, [2])):
            spoken = Spoken(value, value, value)
            self.assertTrue(spoken.name is value and spoken.yard is value and spoken.stands is value)

    def test_copies_lists_as_tuples(self):
        inner, name, stands = ["s", [0, 1]], ["a"], []
        stands.append(inner)
        spoken = Spoken(name, [1], stands)
        self.assertEqual(parts(spoken), (("a",), (1,), (["s", [0, 1]],)))
        self.assertIs(spoken.stands[0], inner)
        name.append("b")
        stands.clear()
        self.assertEqual((spoken.name, len(spoken.stands)), (("a",), 1))

    def test_equal_to_itself_alone(self):
        yard = Yard(1, (), ())
        spoken = Spoken("a", yard, ())
        self.assertTrue(spoken == spoken)
        self.assertFalse(spoken == Spoken("a", yard, ()))


class SpokenOfTest(unittest.TestCase):
    def test_no_yards(self):
        for text in ("", "\n", "   ", "\n  \n\n", "  \n   "):
            self.assertEqual(spoken_of(text), ())

    def test_all_kinds_of_lines(self):
        told = spoken_of(FULL)
        self.assertIsInstance(told, tuple)
        self.assertEqual([spoken.name for spoken in told], ["first_1", "b"])
        ties = both_ways([(0, 1), (1, 2), (2, 3)]) + ((0, 4), (4, 0), (4, 3))
        self.assertEqual(told[0].yard, Yard(5, ties, ((0, 1, 2), (4, 3, 2, 1, 0))))
        self.assertEqual(told[0].stands, (("one", (1, 0, 0, 12, 99)), ("two", (0, 0, 0, 0, 0)),
                                          ("three", (7, 0, 7, 0, 7))))
        self.assertEqual(parts(told[1]), ("b", Yard(1, (), ()), ()))
        for spoken in told:
            for _, stand in spoken.stands:
                self.assertTrue(is_stand(spoken.yard, stand))

    def test_last_line_without_its_end(self):
        for end in ("", "\n", "\n\n", "  ", "  \n   "):
            told = spoken_of("yard a\nplaces 2\nend" + end)
            self.assertEqual([parts(spoken) for spoken in told], [("a", Yard(2, (), ()), ())])

    def test_spaces(self):
        text = "  yard   a  \n  places   3  \n tie  0   1  \n stand  s  .1  .  \nend  \n"
        told = spoken_of(text)
        self.assertEqual(parts(told[0]), ("a", Yard(3, ((0, 1), (1, 0)), ()), (("s", (0, 1, 0)),)))

    def test_spaces_beside_empty_places(self):
        for row in ("s...", "s . . .", "s. . .", "s   .. .", "s ...  "):
            told = spoken_of(f"yard a\nplaces 3\nstand {row}\nend")
            self.assertEqual(told[0].stands, (("s", (0, 0, 0)),))
        told = spoken_of("yard a\nplaces 5\nstand s 1.23..\nstand t.9 8.7\nend")
        self.assertEqual(told[0].stands, (("s", (1, 0, 23, 0, 0)), ("t", (0, 9, 8, 0, 7))))

    def test_ties_told_more_than_once(self):
        told = spoken_of("yard a\nplaces 3\nway 1 0\ntie 2 1 0 1\nway 0 1 2\ntie 0 1\nend")
        self.assertEqual(told[0].yard, Yard(3, both_ways([(0, 1), (1, 2)]), ()))

    def test_a_way_leads_one_way(self):
        told = spoken_of("yard a\nplaces 4\nway 3 0 2\nend")
        self.assertEqual(told[0].yard, Yard(4, ((3, 0), (0, 2)), ()))

    def test_long_rows_and_greatest_numbers(self):
        row = " ".join(str(place) for place in range(99))
        dots = "." * 98
        told = spoken_of(f"yard a\nplaces 99\ntie {row}\nring {row}\nstand s{dots}99\nend")
        self.assertEqual(told[0].yard.places, 99)
        self.assertEqual(told[0].yard.ties, both_ways([(k, k + 1) for k in range(98)]))
        self.assertEqual(told[0].yard.rings, (tuple(range(99)),))
        self.assertEqual(told[0].stands, (("s", (0,) * 98 + (99,)),))

    def test_names(self):
        for name in ("a", "z9_", "abcdefghijkl", "a1234567890_", "tied", "yards", "t", "ends", "nevers",
                     "places1", "to_"):
            self.assertEqual(spoken_of(f"yard {name}\nplaces 1\nstand {name}.\nend")[0].name, name)

    def test_is_name(self):
        for name in ("a", "abcdefghijkl", "a_9", "tied"):
            self.assertIs(texts.is_name(name), True)
        for value in ("", "abcdefghijklm", "_a", "9", "A", "aB", "a b", "a\n", *texts.WORDS, *NO_STRINGS):
            self.assertIs(texts.is_name(value), False)

    def test_stands_of_unlike_yards_may_have_like_names(self):
        told = spoken_of("yard a\nplaces 1\nstand a.\nend\nyard b\nplaces 1\nstand a 1\nend")
        self.assertEqual([spoken.stands for spoken in told], [(("a", (0,)),), (("a", (1,)),)])


class WrongTextTest(unittest.TestCase):
    def check_inner(self, line, column, places=4, ahead=""):
        """A line within a yard of so many places is wrong at a column, whatever comes behind it."""
        text = f"yard a\nplaces {places}\n{ahead}{line}"
        number = text.count("\n") + 1
        for behind in ("", "\nwrong", "\nend\n"):
            self.assertEqual(wrong_at(text + behind), (number, column), line)

    def check_outer(self, line, column):
        for ahead in ("", "\n  \n", "yard z\nplaces 1\nend\n"):
            number = ahead.count("\n") + 1
            self.assertEqual(wrong_at(f"{ahead}{line}\nplaces 0"), (number, column), line)

    def check_places(self, line, column):
        self.assertEqual(wrong_at(f"yard a\n\n{line}\nend x"), (3, column), line)

    def test_no_string(self):
        for value in NO_STRINGS:
            with self.assertRaises(BadLine) as caught:
                spoken_of(value)
            self.assertEqual((caught.exception.line, caught.exception.column), (0, 0))

    def test_yard_lines(self):
        for line, column in (("y", 2), ("yar", 4), ("yard", 5), ("yard ", 6), ("  yard  ", 9),
                             ("yarn a", 4), ("Yard a", 1), ("yarda", 5), ("yard1 a", 5), ("yard.", 5),
                             ("yard 1a", 6), ("yard _a", 6), ("yard A", 6), ("yard .", 6),
                             ("yard aB", 7), ("yard b-c", 7), ("yard b c", 8), ("yard b .", 8),
                             ("yard abcdefghijklm", 18), ("yard abcdefghijklmno p", 18),
                             ("yard b  c", 9), ("\tyard b", 1), ("yard\tb", 5), ("  x", 3),
                             ("end", 1), ("places 3", 1), ("tie 0 1", 1), ("stand s .", 1), ("#", 1)):
            self.check_outer(line, column)

    def test_words_of_the_text_as_names(self):
        for word in texts.WORDS:
            for end in ("", " ", "  ", ".", " 1"):
                self.check_outer(f"yard {word}{end}", 6 + len(word))
                self.check_inner(f"stand {word}{end}", 7 + len(word))
        self.assertEqual(sorted(texts.WORDS),
                         ["end", "never", "places", "ring", "stand", "tie", "to", "way", "yard"])

    def test_yard_told_already(self):
        ahead = "yard ab\nplaces 1\nend\nyard b\nplaces 1\nend\n"
        for name in ("ab", "b", "b  ", "b c", "b-", "ab.", "bC"):
            self.assertEqual(wrong_at(f"{ahead} yard  {name}"), (7, 8))
        self.assertEqual(wrong_at(f"{ahead}yard a"), (8, 1))
        self.assertEqual(wrong_at(f"{ahead}yard abc"), (8, 1))
        self.assertEqual(wrong_at(f"{ahead}yard abcdefghijklm"), (7, 18))

    def test_places_lines(self):
        for line, column in (("p", 2), ("place 3", 6), ("places", 7), ("places ", 8), ("places3", 7),
                             ("places 0", 8), ("places 0 1", 8), ("places 0x", 9), ("places 00", 9),
                             ("places 01", 9), ("places 100", 10), ("places 1000", 10),
                             ("places x", 8), ("places -1", 8), ("places .", 8), ("places 3x", 9),
                             ("places 12a", 10), ("places 3 4", 10), ("places 3.", 9), ("  q", 3),
                             ("end", 1), ("yard a", 1), ("tie 0 1", 1), ("places 3\t", 9),
                             ("places  0.", 9)):
            self.check_places(line, column)

    def test_inner_words(self):
        for line, column in (("yard b", 1), ("places 3", 1), ("t", 2), ("ti", 3), ("to 1", 2),
                             ("tie", 4), ("tiex", 4), ("tie0 1", 4), ("w", 2), ("wax", 3), ("way", 4),
                             ("r", 2), ("rings 0 1 2", 5), ("s", 2), ("stan d", 5), ("stand", 6),
                             ("stand.", 6), ("e", 2), ("en", 3), ("ends", 4), ("end x", 5),
                             ("end.", 4), ("  en d", 5), (".", 1), ("1", 1), ("End", 1), ("never", 1)):
            self.check_inner(line, column)

    def test_ties(self):
        for word in ("tie", "way"):
            for line, column in (
                    ("", 4), (" ", 5), (" 0", 6), (" 0 ", 7), (" 0  ", 8), (" x", 5), (" 4", 5),
                    (" 4 x", 5), (" 0 0", 7), (" 0 1 1", 9), (" 0 1 0 0 1", 11), (" 0 4", 7),
                    (" 0 44", 7), (" 0 444", 9), (" 0 1 44 x", 9), (" 00 1", 6), (" 0 01", 8),
                    (" 0 00", 8), (" 0 0x", 8), (" 0 4x", 8), (" 0 44x", 9), (" 0 4.", 7),
                    (" 0,1", 6), (" 0.1", 6), (" 0 .", 7), (" 0 1 x", 9), (" 0 1x", 8),
                    (" 0 1 -", 9), (" 3 2 1 0 99", 13), (" -1 0", 5), (" 0 1\t", 8), (" 9", 5)):
                self.check_inner(word + line, column)

    def test_rings(self):
        for line, column in (
                ("", 5), (" ", 6), (" 0", 7), (" 0 1", 9), (" 0 1 ", 10), (" 0 1 0", 10),
                (" 0 0 1", 8), (" 0 1 2 1", 12), (" 0 1 2 4", 12), (" 0 1 2 3 0", 14), (" 4 1 2", 6),
                (" 0 1 2 x", 12), (" 0 1 02", 11), (" 0 1 222", 12), (" 0 1 2.", 11), ("0 1 2", 5)):
            self.check_inner("ring" + line, column)

    def test_stands(self):
        for line, column in (
                ("stand ", 7), ("stand s", 8), ("stand s ", 9), ("stand s ...", 12),
                ("stand s ...  ", 14), ("stand s ....  .", 15), ("stand s .....", 13),
                ("stand s ....1", 13), ("stand s 1 2 3 4 5", 17), ("stand s 1 2 3 4 0", 17),
                ("stand s 1 2 3", 14), ("stand s 1 2 0 4", 13), ("stand s 0...", 9), ("stand s 00..", 10),
                ("stand s 01..", 10), ("stand s 0x..", 10), ("stand s 100...", 11),
                ("stand s 99...x", 14), ("stand s .x", 10), ("stand s,....", 8), ("stand S ....", 7),
                ("stand 1 ....", 7), ("stand .....", 7), ("stand s.-", 9), ("stand s 1-", 10),
                ("stand abcdefghijklm....", 19), ("stand s1 2 3 4", 15)):
            self.check_inner(line, column)

    def test_stand_told_already(self):
        ahead = "stand ab....\nstand b 1 2 3 4\n"
        for line in ("ab ....", "b", "b ", "b...", "b-", "ab 1 2 3 x", "bC"):
            self.check_inner("  stand   " + line, 11, ahead=ahead)
        self.check_inner("stand a...", 11, ahead=ahead)
        self.check_inner("stand abcdefghijklm", 19, ahead=ahead)

    def test_two_figures(self):
        for line, column in (("tie 9 10", 7), ("tie 9 99", 7), ("tie 9 100", 9), ("tie 10", 5),
                             ("ring 0 1 10", 10)):
            self.check_inner(line, column, places=10)
        self.check_inner("tie 10 10", 8, places=11)
        self.assertIsNone(wrong_at("yard a\nplaces 11\ntie 10 1\nring 10 0 1\nend"))

    def test_one_place(self):
        for line, column in (("tie 0", 6), ("tie 0 ", 7), ("tie 0 0", 7), ("tie 1", 5), ("ring 0", 7)):
            self.check_inner(line, column, places=1)

    def test_text_that_ends_within_a_yard(self):
        for text, line in (("yard a", 2), ("yard a\n", 2), ("yard a\nplaces 2", 3),
                           ("yard a\nplaces 2\n", 3), ("yard a\nplaces 2\n\n", 4),
                           ("yard a\nplaces 2\n  ", 4), ("yard a\nplaces 2\n  \n", 4),
                           ("yard a\nplaces 2\nend\nyard b\n", 5),
                           ("\n\nyard a\nplaces 2\nstand s..\n", 6)):
            self.assertEqual(wrong_at(text), (line, 1), text)

    def test_the_first_wrong_line_counts(self):
        self.assertEqual(wrong_at("yard a\nplaces 2\ntie 0 0\nx"), (3, 7))
        self.assertEqual(wrong_at("x\nyard"), (1, 1))
        self.assertEqual(wrong_at("yard a\nplaces 2\nend\nend"), (4, 1))


SUFFIXES = [""]
for _right in ("yard a", "places 1", "tie 1 1", "way 1 1", "ring 1 1 1", "stand a ....", "end", "a ....", "x ....",
               "1", "1 1", "1 1 1", " 1", "xa"):
    SUFFIXES.extend(_right[_at:] for _at in range(len(_right)))
SUFFIXES = sorted(set(SUFFIXES))

NAME = r"(?!(?:yard|places|tie|way|ring|stand|end|to|never)(?![a-z0-9_]))[a-z][a-z0-9_]{0,11}(?![a-z0-9_])"
NUMBER = r"(?:0|[1-9][0-9]?)(?![a-z0-9_])"
RIGHT = {
    "yard": rf" *yard +{NAME} *",
    "places": rf" *places +{NUMBER} *",
    "inner": rf" *(?:(?:tie|way) +{NUMBER}(?: +{NUMBER})+|ring +{NUMBER}(?: +{NUMBER}){{2,}}"
             rf"|stand +{NAME}(?: *(?:\.|{NUMBER})){{4}}|end) *",
}
RIGHT = {place: re.compile(right) for place, right in RIGHT.items()}


def begins(place, text):
    """Whether some line that is right, but for its names and numbers, begins so."""
    return any(RIGHT[place].fullmatch(text + suffix) for suffix in SUFFIXES)


def barred_column(line):
    """The column of the first whole number or name that may not stand, in a yard of 4 places, with b told."""
    runs = [(found.start(), found.group()) for found in re.finditer("[a-z0-9_]+", line)]
    word = runs[0][1] if runs else ""
    for index, (at, run) in enumerate(runs[1:], start=1):
        ahead = [int(other) for _, other in runs[1:index] if re.fullmatch(NUMBER, other)]
        if word in ("yard", "stand") and index == 1:
            barred = run == "b"
        elif not re.fullmatch(NUMBER, run):
            barred = False
        elif word in ("tie", "way"):
            barred = int(run) > 3 or int(run) in ahead[-1:]
        elif word == "ring":
            barred = int(run) > 3 or int(run) in ahead
        else:
            barred = word in ("places", "stand") and int(run) == 0
        if barred:
            return at + 1
    return len(line) + 2


class ColumnsTest(unittest.TestCase):
    """[5] itself, tried out: no right line begins with more than what stands ahead of the column."""

    AHEAD = {"yard": "yard b\nplaces 4\nend\n", "places": "yard a\n",
             "inner": "yard a\nplaces 4\nstand b....\n"}

    def lines_for(self, dice, place):
        pieces = {"yard": ("yard", "b", "abcdefghijkl", "tie"), "places": ("places", "0", "4", "12"),
                  "inner": ("tie", "way", "ring", "stand", "end", "0", "1", "2", "3", "4", "10", "b", "s",
                            "stand s", "ring 0 1", "tie 2", ". .", "..", "1.", "tie 1 2", "0 1 2 3")}
        for _ in range(1500):
            count = dice.randrange(1, 7)
            line = " ".join(dice.choice(pieces[place]) for _ in range(count))
            if dice.random() < 0.5:
                at = dice.randrange(len(line) + 1)
                sign = dice.choice(("", " ", "x", "0", "1", ".", "-", "b", "99"))
                line = line[:at] + sign + line[at + dice.randrange(2):]
            yield dice.choice(("", "  ")) + line + dice.choice(("", "  "))

    def test_columns(self):
        dice = random.Random(5)
        for place, ahead in self.AHEAD.items():
            wrong = 0
            for line in self.lines_for(dice, place):
                if not line.strip():
                    continue
                most = max(many for many in range(len(line) + 1) if begins(place, line[:many]))
                column = min(most + 1, barred_column(line))
                is_right = RIGHT[place].fullmatch(line) and column > len(line)
                told = wrong_at(ahead + line)
                number = ahead.count("\n") + 1
                if is_right:
                    self.assertIn(told, (None, (number + 1, 1)), line)
                else:
                    wrong += 1
                    self.assertEqual(told, (number, column), line)
            self.assertGreater(wrong, 300)


class TextOfTest(unittest.TestCase):
    def test_word_for_word(self):
        yard = Yard(12, both_ways([(10, 9), (0, 1), (1, 2)]) + ((2, 0), (0, 11)), ((3, 1, 0), (0, 1, 2, 10)))
        stands = (("z", (0, 1, 99) + (0,) * 9), ("a", tuple(range(12))))
        self.assertEqual(text_of(Spoken("my_yard", yard, stands)), (
            "yard my_yard\n"
            "  places 12\n"
            "  tie 0 1\n"
            "  tie 1 2\n"
            "  tie 9 10\n"
            "  way 0 11\n"
            "  way 2 0\n"
            "  ring 3 1 0\n"
            "  ring 0 1 2 10\n"
            "  stand z . 1 99 . . . . . . . . .\n"
            "  stand a . 1 2 3 4 5 6 7 8 9 10 11\n"
            "end\n"))
        self.assertEqual(text_of(Spoken("a", Yard(1, (), ()), ())), "yard a\n  places 1\nend\n")

    def test_lists(self):
        spoken = Spoken("a", Yard(2, [[0, 1]], []), [["s", [1, 0]], ("t", [0, 2])])
        self.assertEqual(text_of(spoken),
                         "yard a\n  places 2\n  way 0 1\n  stand s 1 .\n  stand t . 2\nend\n")

    def test_there_and_back(self):
        dice = random.Random(3)
        texts_told = []
        for number in range(150):
            places = dice.choice((1, 2, 3, 5, 12, 99))
            pairs = [(a, b) for a in range(places) for b in range(places) if a != b]
            ties = dice.sample(pairs, min(len(pairs), dice.randrange(40)))
            rings = [dice.sample(range(places), dice.randrange(3, places + 1))
                     for _ in range(dice.randrange(4) if places > 2 else 0)]
            stands = tuple((f"s{k}", tuple(dice.choice((0, 0, 1, 50, 99)) for _ in range(places)))
                           for k in range(dice.randrange(4)))
            spoken = Spoken(f"y_{number}", Yard(places, ties, rings), stands)
            text = text_of(spoken)
            texts_told.append((text, spoken))
            told = spoken_of(text)
            self.assertEqual([parts(one) for one in told], [parts(spoken)])
            self.assertEqual(text_of(told[0]), text)
        told = spoken_of("\n".join(text for text, _ in texts_told))
        self.assertEqual([parts(one) for one in told], [parts(spoken) for _, spoken in texts_told])


class PromiseTest(unittest.TestCase):
    def wrong_column(self, text):
        with self.assertRaises(BadText, msg=text) as caught:
            promise_of(text)
        return caught.exception.column

    def test_right_ones(self):
        for text, promise in (
                ("y a to b", ("y", "to", "a", "b")),
                ("y a never b", ("y", "never", "a", "b")),
                ("  y_1   abcdefghijkl  to   tower  ", ("y_1", "to", "abcdefghijkl", "tower")),
                ("x x never x ", ("x", "never", "x", "x"))):
            self.assertEqual(promise_of(text), promise)

    def test_there_and_back(self):
        for promise in (("y", "to", "a", "b"), ("yards", "never", "end_1", "a")):
            self.assertEqual(promise_of(promise_text(promise)), promise)
        self.assertEqual(promise_text(promise_of("  y  a  never  b  ")), "y a never b")
        self.assertEqual(promise_text(["y", "to", "a", "b"]), "y a to b")

    def test_wrong_ones(self):
        for text, column in (
                ("", 1), ("   ", 4), ("y", 2), ("y ", 3), ("y a", 4), ("y a ", 5), ("y a t", 6),
                ("y a to", 7), ("y a to ", 8), ("y a to  ", 9), ("y a n", 6), ("y a never", 10),
                ("1 a to b", 1), ("Y a to b", 1), ("_ a to b", 1), ("y. a to b", 2), ("y A to b", 3),
                ("y a two b", 6), ("y a tob", 7), ("y a to9 b", 7), ("y a neverb", 10), ("y a ever b", 5),
                ("y a nev b", 8), ("y a To b", 5), ("y a to 1", 8), ("y a to b c", 10),
                ("y a to b.", 9), ("y a to b\n", 9), ("y\ta to b", 2), ("\ny a to b", 1),
                ("y a to b-", 9), ("abcdefghijklm a to b", 13), ("y a to abcdefghijklmn", 20),
                ("y tie to b", 6), ("y to to b", 5), ("tie a to b", 4), ("to", 3), ("y a to never", 13),
                ("y a to end  ", 11), ("y a to end.", 11), ("y a.to b", 4), ("y a to", 7)):
            self.assertEqual(self.wrong_column(text), column, text)

    def test_no_string(self):
        for value in NO_STRINGS:
            self.assertEqual(self.wrong_column(value), 0)


if __name__ == "__main__":
    unittest.main()
