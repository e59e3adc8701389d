"""Points [60] to [66] of DOC.md, and what [2] says of them."""

import inspect
import random
import unittest

from samples import NO_ROWS, NO_STANDS, check_error, check_interface, distances
from slideyards import workshops
from slideyards.counts import count_of
from slideyards.errors import (BadLine, BadName, BadRow, BadText, BadTie, NoName, NotKept, NothingToRedo, NothingToUndo,
                               TakenName, TooMany, Unlike, YardError)
from slideyards.joining import Barred, Moves
from slideyards.kinds import is_settled, leads, settle
from slideyards.texts import Spoken, promise_text, spoken_of, text_of
from slideyards.workshops import Workshop

LINE = """yard line
  places 4
  tie 0 1
  tie 1 2
  tie 2 3
  stand one 7 . . 9
  stand two . 7 9 .
  stand turned 9 . . 7
  stand less 7 . . .
end
"""
RING = """yard loop
  places 3
  way 0 1
  way 1 2
  ring 0 1 2
  stand one 1 1 .
  stand two . 1 1
end
"""
FALL = """yard fall
  places 3
  way 0 1
  way 1 2
  stand high 5 . .
  stand low . . 5
end
"""
ALL = LINE + RING + FALL
NO_NAMES = NO_ROWS + (b"line", ("line",), ["line"], "Line", " line", "line ", "lines", "", "yard")


def state_of(shop):
    return shop.text(), shop.promises()


def full(*promises):
    shop = Workshop(ALL)
    for promise in promises:
        shop.keep(promise)
    return shop


class InterfaceTest(unittest.TestCase):
    def test_names_and_arguments(self):
        check_interface(self, workshops, {"Workshop": "text"})
        for name, arguments in {
                "text": "", "names": "", "promises": "", "get": "name", "many": "name stand", "kept": "text",
                "answer": "name one other", "put": "text", "drop": "name", "rename": "name new",
                "lay": "name stand row", "keep": "text", "release": "text", "undo": "", "redo": "",
                "attempt": "action", "trial": "action"}.items():
            self.assertIn(name, vars(Workshop))
            found = list(inspect.signature(getattr(Workshop, name)).parameters)
            self.assertEqual(" ".join(found[1:]), arguments, name)

    def test_equal_to_itself_alone(self):
        shop = Workshop()
        self.assertTrue(shop == shop)
        self.assertFalse(shop == Workshop())


class AskTest(unittest.TestCase):
    def test_empty(self):
        for shop in (Workshop(), Workshop(""), Workshop(text="\n \n")):
            self.assertEqual((shop.text(), shop.names(), shop.promises()), ("", (), ()))
            self.assertIs(shop.undo.__self__, shop)
            check_error(self, NothingToUndo, {}, shop.undo)
            check_error(self, NothingToRedo, {}, shop.redo)

    def test_texts(self):
        for text in (ALL, "\n" + ALL.replace("\n", "  \n "), RING + LINE):
            shop = Workshop(text)
            spoken = spoken_of(text)
            self.assertEqual(shop.text(), "".join(text_of(item) for item in spoken))
            self.assertEqual(shop.names(), tuple(item.name for item in spoken))
            self.assertEqual(shop.promises(), ())

    def test_wrong_texts(self):
        for text in NO_ROWS:
            if not isinstance(text, str):
                check_error(self, BadLine, {"line": 0, "column": 0}, Workshop, text)
        check_error(self, BadLine, {"line": 11, "column": 6}, Workshop, LINE + "yard line\n")
        check_error(self, BadLine, {"line": 2, "column": 1}, Workshop, "yard line")

    def test_get(self):
        shop = Workshop(ALL)
        for item in spoken_of(ALL):
            told = shop.get(item.name)
            self.assertIsInstance(told, Spoken)
            self.assertEqual((told.name, told.stands), (item.name, item.stands))
            self.assertTrue(told.yard == item.yard)
        for name in NO_NAMES:
            check_error(self, NoName, {"name": name}, shop.get, name)
            check_error(self, NoName, {"name": name}, Workshop().get, name)

    def test_many(self):
        shop = Workshop(ALL + "yard five\nplaces 5\ntie 0 1 2 3 4\nstand one 1 1 2 . .\nend\n")
        self.assertEqual(shop.many("line", "one"), 6)
        self.assertEqual(shop.many("line", "less"), 4)
        self.assertEqual(shop.many("loop", "two"), 3)
        self.assertEqual(shop.many("fall", "low"), 1)
        self.assertEqual(shop.many("five", "one"), 10)
        for name in NO_NAMES:
            check_error(self, NoName, {"name": name}, shop.many, name, None)
        for name in NO_NAMES + ("high",):
            check_error(self, NoName, {"name": name}, shop.many, "line", name)
        check_error(self, BadTie, {"tie": (0, 1)}, shop.many, "fall", "high")

    def test_answer(self):
        shop = Workshop(ALL)
        for name in ("line", "loop"):
            spoken = shop.get(name)
            for first, one in spoken.stands:
                for second, other in spoken.stands:
                    if sorted(one) == sorted(other):
                        told = shop.answer(name, first, second)
                        self.assertIs(is_settled(spoken.yard, one, other, told), True)
                        self.assertIs(leads(told), other in distances(spoken.yard, one))
        self.assertIsInstance(shop.answer("line", "one", "two"), Moves)
        self.assertIsInstance(shop.answer("line", "one", "turned"), Barred)
        for name in NO_NAMES:
            check_error(self, NoName, {"name": name}, shop.answer, name, None, None)
            check_error(self, NoName, {"name": name}, shop.answer, "line", name, None)
            check_error(self, NoName, {"name": name}, shop.answer, "line", "one", name)
        check_error(self, Unlike, {"what": "things"}, shop.answer, "line", "one", "less")
        check_error(self, BadTie, {"tie": (0, 1)}, shop.answer, "fall", "high", "low")

    def test_kept(self):
        shop = Workshop(ALL)
        for text, is_kept in (("line one to two", True), (" line  one to turned ", False),
                              ("line one never two", False),
                              ("line one never turned", True), ("loop one to two", True), ("loop one never two", False),
                              ("fall low never high", True), ("line one to one", True)):
            told, witness = shop.kept(text)
            self.assertIs(told, is_kept)
            name, one, word, other = text.split()
            spoken = shop.get(name)
            stands = dict(spoken.stands)
            self.assertIs(is_settled(spoken.yard, stands[one], stands[other], witness), True)
            self.assertIs(leads(witness), is_kept == (word == "to"))
        self.assertEqual(shop.promises(), ())

    def test_errors_of_promises(self):
        shop = Workshop(ALL)
        before = state_of(shop)
        for call in (shop.kept, shop.keep):
            for text in NO_ROWS:
                if not isinstance(text, str):
                    check_error(self, BadText, {"column": 0}, call, text)
            for text, kind, fields in (
                    ("line one to", BadText, {"column": 12}), ("line one never 5two", BadText, {"column": 16}),
                    ("other none to none", NoName, {"name": "other"}), ("line none to two", NoName, {"name": "none"}),
                    ("line none to any", NoName, {"name": "none"}), ("line one to any", NoName, {"name": "any"}),
                    ("line one never less", Unlike, {"what": "things"}), ("fall high to low", BadTie, {"tie": (0, 1)})):
                check_error(self, kind, fields, call, text)
        self.assertEqual(state_of(shop), before)
        check_error(self, NothingToUndo, {}, shop.undo)

    def test_too_many_rows_of_kinds(self):
        text = ("yard wide\nplaces 8\nring 0 1 2 3 4 5 6 7\nring 0 1 2 3\nstand one 1 1 2 3 4 5 6 7\n"
                "stand two 7 6 5 4 3 2 1 1\nend\n")
        shop = Workshop(text)
        for call, arguments in ((shop.answer, ("wide", "one", "two")), (shop.kept, ("wide one to two",)),
                                (shop.keep, ("wide one to two",))):
            check_error(self, TooMany, {"most": 5000}, call, *arguments)
        self.assertEqual(shop.many("wide", "two"), 20160)


class EditTest(unittest.TestCase):
    def check_edit(self, shop, call, *arguments):
        """Whether a call is one edit, which can be undone and done again."""
        before = state_of(shop)
        self.assertIsNone(call(*arguments))
        behind = state_of(shop)
        self.assertNotEqual(before, behind)
        self.assertIsNone(shop.undo())
        self.assertEqual(state_of(shop), before)
        self.assertIsNone(shop.redo())
        self.assertEqual(state_of(shop), behind)
        check_error(self, NothingToRedo, {}, shop.redo)

    def check_none(self, shop, call, *arguments):
        """Whether a call changes nothing, and takes nothing away that can be done again."""
        shop.put("yard more\nplaces 1\nend\n")
        shop.undo()
        before = state_of(shop)
        self.assertIsNone(call(*arguments))
        self.assertEqual(state_of(shop), before)
        shop.redo()
        self.assertEqual(shop.names()[-1], "more")
        shop.undo()

    def test_put(self):
        shop = full("loop one to two")
        self.check_edit(shop, shop.put, "yard new\nplaces 2\nend")
        self.assertEqual(shop.names(), ("line", "loop", "fall", "new"))
        self.check_edit(shop, shop.put, "yard two\nplaces 1\nend\nyard line\nplaces 1\nstand x 5\nend\n"
                        "yard last\nplaces 3\nend")
        self.assertEqual(shop.names(), ("line", "loop", "fall", "new", "two", "last"))
        self.assertEqual(shop.get("line").stands, (("x", (5,)),))
        self.check_none(shop, shop.put, "")
        self.check_none(shop, shop.put, text_of(shop.get("loop")))
        self.check_none(shop, shop.put, shop.text().replace("\n", " \n\n"))
        before = state_of(shop)
        for text in NO_ROWS:
            if not isinstance(text, str):
                check_error(self, BadLine, {"line": 0, "column": 0}, shop.put, text)
        check_error(self, BadLine, {"line": 3, "column": 9}, shop.put, "yard a\nplaces 2\ntie 0 1 2\nend\n")
        self.assertEqual(state_of(shop), before)

    def test_drop(self):
        shop = full("loop one to two", "line one never turned", "line one to two", "fall low to low")
        self.check_edit(shop, shop.drop, "line")
        self.assertEqual(shop.names(), ("loop", "fall"))
        self.assertEqual(shop.promises(), ("loop one to two", "fall low to low"))
        for name in NO_NAMES + ("line",):
            check_error(self, NoName, {"name": name}, shop.drop, name)

    def test_rename(self):
        shop = full("loop one to two", "line one never turned", "line one to two")
        self.check_edit(shop, shop.rename, "line", "row")
        self.assertEqual(shop.names(), ("row", "loop", "fall"))
        self.assertEqual(shop.promises(), ("loop one to two", "row one never turned", "row one to two"))
        self.assertEqual(shop.get("row").stands, spoken_of(LINE)[0].stands)
        for new in NO_ROWS + ("", "Row", "to", "yard", "never", "a" * 13, "1a", "_a", "a b", "\n"):
            check_error(self, BadName, {"name": new}, shop.rename, None, new)
            check_error(self, BadName, {"name": new}, shop.rename, "loop", new)
        for name in NO_NAMES + ("line",):
            check_error(self, NoName, {"name": name}, shop.rename, name, "loop")
        for name, new in (("row", "loop"), ("loop", "loop"), ("fall", "row")):
            check_error(self, TakenName, {"name": new}, shop.rename, name, new)

    def test_lay(self):
        shop = full("loop one to two")
        self.check_edit(shop, shop.lay, "line", "one", [1, 2, 99, 0])
        self.check_edit(shop, shop.lay, "line", "new", (0, 0, 0, 0))
        self.assertEqual(shop.get("line").stands, (
            ("one", (1, 2, 99, 0)), ("two", (0, 7, 9, 0)), ("turned", (9, 0, 0, 7)), ("less", (7, 0, 0, 0)),
            ("new", (0, 0, 0, 0))))
        self.assertEqual(shop.names(), ("line", "loop", "fall"))
        self.check_none(shop, shop.lay, "line", "new", [0, 0, 0, 0])
        for name in NO_NAMES:
            check_error(self, NoName, {"name": name}, shop.lay, name, None, None)
        for name in NO_ROWS + ("", "One", "stand", "a" * 13):
            check_error(self, BadName, {"name": name}, shop.lay, "line", name, None)
        for row in NO_STANDS + ((100, 0, 0, 0), [1, 2, 3, 500]):
            for name in ("one", "other"):
                check_error(self, BadRow, {"row": row}, shop.lay, "line", name, row)
        row = [1, 1, 0]
        shop.lay("loop", "list", row)
        row[0] = 5
        self.assertEqual(dict(shop.get("loop").stands)["list"], (1, 1, 0))

    def test_keep(self):
        shop = Workshop(ALL)
        self.check_edit(shop, shop.keep, " line one  to two ")
        self.check_edit(shop, shop.keep, "loop two to one")
        self.check_edit(shop, shop.keep, "line one never turned")
        self.assertEqual(shop.promises(), ("line one to two", "loop two to one", "line one never turned"))
        self.check_none(shop, shop.keep, "line one to two  ")
        self.assertEqual(shop.promises(), ("line one to two", "loop two to one", "line one never turned"))
        for text, promise in ((" line  one to turned", "line one to turned"),
                              ("line one never  two", "line one never two"),
                              ("fall low never low", "fall low never low")):
            with self.assertRaises(NotKept) as caught:
                shop.keep(text)
            self.assertEqual(caught.exception.promise, promise)
            name, one, _, other = promise.split()
            spoken = shop.get(name)
            stands = dict(spoken.stands)
            self.assertIs(is_settled(spoken.yard, stands[one], stands[other], caught.exception.witness), True)
        self.assertEqual(len(shop.promises()), 3)

    def test_release(self):
        shop = full("loop one to two", "line one never turned", "line one to two")
        self.check_edit(shop, shop.release, "line  one never turned ")
        self.assertEqual(shop.promises(), ("loop one to two", "line one to two"))
        for text in NO_ROWS + ("", "loop", "line one never turned", "loop one never two", "loop two to one",
                               "loop one to", ("loop one to two",), ["loop one to two"], b"loop one to two"):
            check_error(self, NoName, {"name": text}, shop.release, text)
        self.check_edit(shop, shop.release, "loop one to two")
        self.check_edit(shop, shop.release, "line one to two")
        self.assertEqual(shop.promises(), ())

    def check_refused(self, shop, kind, fields, call, *arguments):
        """Whether a call is refused, and changes nothing, not even what can be done again."""
        shop.put("yard more\nplaces 1\nend\n")
        shop.undo()
        before = state_of(shop)
        with self.assertRaises(kind) as caught:
            call(*arguments)
        for name, value in fields.items():
            self.assertEqual(getattr(caught.exception, name), value)
        self.assertEqual(state_of(shop), before)
        shop.redo()
        shop.undo()
        self.assertEqual(state_of(shop), before)

    def test_edits_that_break_promises(self):
        shop = full("loop one to two", "line one to two", "line one never turned", "fall low to low")
        self.check_refused(shop, NotKept, {"promise": "line one to two"}, shop.lay, "line", "one", (9, 0, 0, 7))
        self.check_refused(shop, NotKept, {"promise": "line one never turned"}, shop.lay, "line", "turned",
                           (0, 0, 7, 9))
        self.check_refused(shop, Unlike, {"what": "things"}, shop.lay, "line", "one", (7, 0, 0, 8))
        self.check_refused(shop, NoName, {"name": "one"}, shop.put, "yard line\nplaces 4\nend\n")
        self.check_refused(shop, NoName, {"name": "two"}, shop.put, "yard line\nplaces 4\nstand one 7 . . 9\nend\n")
        self.check_refused(shop, NotKept, {"promise": "line one to two"}, shop.put, LINE.replace("tie 0 1", "tie 1 3"))
        # Of two promises that are broken the one that was made first counts.
        text = LINE.replace("tie 0 1", "tie 1 3") + RING.replace("ring 0 1 2", "")
        self.check_refused(shop, BadTie, {"tie": (0, 1)}, shop.put, text)
        self.check_refused(shop, NotKept, {"promise": "line one never turned"}, shop.put,
                           LINE.replace("tie 1 2", "ring 0 1 2 3"))
        self.check_refused(shop, NoName, {"name": "low"}, shop.put, "yard fall\nplaces 3\nend\n")
        # What breaks none is made.
        shop.lay("line", "one", (0, 7, 0, 9))
        shop.put(LINE.replace("tie 1 2", "tie 1 2\n tie 0 1"))

    def test_witness(self):
        shop = full("line one never turned")
        with self.assertRaises(NotKept) as caught:
            shop.put(LINE.replace("tie 1 2", "ring 0 1 2 3"))
        spoken = spoken_of(LINE.replace("tie 1 2", "ring 0 1 2 3"))[0]
        stands = dict(spoken.stands)
        self.assertIs(leads(caught.exception.witness), True)
        self.assertIs(is_settled(spoken.yard, stands["one"], stands["turned"], caught.exception.witness), True)

    def test_yards_that_take_names_from_one_another(self):
        # A promise is about the yard that bears the name now.
        shop = Workshop("yard a\nplaces 2\ntie 0 1\nstand x 1 .\nstand y . 1\nend\n"
                        "yard b\nplaces 2\nstand x 1 .\nstand y . 1\nend\n")
        shop.keep("a x to y")
        shop.keep("b x never y")

        def exchange(inner):
            inner.rename("a", "c")
            inner.rename("b", "a")
            inner.rename("c", "b")

        shop.attempt(exchange)
        self.assertEqual(shop.names(), ("b", "a"))
        self.assertEqual(shop.promises(), ("b x to y", "a x never y"))
        before = state_of(shop)
        text = "yard b\nplaces 2\nstand x 1 .\nstand y . 1\nend\n"
        with self.assertRaises(NotKept) as caught:
            shop.put(text)
        self.assertEqual(caught.exception.promise, "b x to y")
        self.assertEqual(state_of(shop), before)

    def test_two_workshops(self):
        one, other = Workshop(ALL), Workshop(ALL)
        one.drop("line")
        one.keep("loop one to two")
        self.assertEqual((other.text(), other.promises()), (Workshop(ALL).text(), ()))
        check_error(self, NothingToUndo, {}, other.undo)


class UndoTest(unittest.TestCase):
    def test_all_ways(self):
        shop = Workshop(ALL)
        states = [state_of(shop)]
        for call, arguments in ((shop.keep, ("line one to two",)), (shop.drop, ("fall",)),
                                (shop.rename, ("line", "row")), (shop.lay, ("loop", "one", (0, 0, 1))),
                                (shop.release, ("row one to two",)), (shop.put, (LINE,))):
            call(*arguments)
            states.append(state_of(shop))
        for state in states[-2::-1]:
            shop.undo()
            self.assertEqual(state_of(shop), state)
        check_error(self, NothingToUndo, {}, shop.undo)
        self.assertEqual(state_of(shop), states[0])
        for state in states[1:]:
            shop.redo()
            self.assertEqual(state_of(shop), state)
        check_error(self, NothingToRedo, {}, shop.redo)
        self.assertEqual(state_of(shop), states[-1])
        for _ in range(3):
            shop.undo()
        shop.drop("loop")
        check_error(self, NothingToRedo, {}, shop.redo)
        shop.undo()
        self.assertEqual(state_of(shop), states[-4])
        for state in states[2::-1]:
            shop.undo()
            self.assertEqual(state_of(shop), state)


class Stop(BaseException):
    """An error that is no Exception."""


class AttemptTest(unittest.TestCase):
    def test_one_edit(self):
        shop = full("line one to two")
        before = state_of(shop)

        def action(inner):
            self.assertIs(inner, shop)
            inner.drop("fall")
            inner.lay("loop", "new", (0, 0, 0))
            inner.keep("loop new to new")
            return [5]

        told = shop.attempt(action)
        self.assertEqual(told, [5])
        behind = state_of(shop)
        self.assertEqual(shop.promises(), ("line one to two", "loop new to new"))
        shop.undo()
        self.assertEqual(state_of(shop), before)
        shop.redo()
        self.assertEqual(state_of(shop), behind)

    def test_no_edit(self):
        shop = Workshop(ALL)
        shop.drop("fall")
        shop.undo()

        def action(inner):
            inner.drop("line")
            inner.undo()
            inner.rename("loop", "wheel")
            inner.rename("wheel", "loop")
            return inner.names()

        self.assertEqual(shop.attempt(action), ("line", "loop", "fall"))
        check_error(self, NothingToUndo, {}, shop.undo)
        shop.redo()
        self.assertEqual(shop.names(), ("line", "loop"))

    def test_errors(self):
        for error in (Stop(), ValueError("x"), KeyError(5), KeyboardInterrupt(), NoName("z"), StopIteration(),
                      Exception()):
            for kind in ("attempt", "trial"):
                shop = full("line one to two")
                shop.drop("fall")
                shop.undo()
                before = state_of(shop)

                def action(inner):
                    inner.drop("line")
                    inner.put("yard z\nplaces 1\nend")
                    raise error

                with self.assertRaises(type(error)) as caught:
                    getattr(shop, kind)(action)
                self.assertIs(caught.exception, error)
                self.assertEqual(state_of(shop), before)
                shop.redo()
                self.assertEqual(shop.names(), ("line", "loop"))
                shop.undo()
                shop.undo()
                self.assertEqual(shop.promises(), ())

    def test_what_is_no_function(self):
        shop = full("line one to two")
        before = state_of(shop)
        for action in (None, 5, "x", lambda: None):
            for call in (shop.attempt, shop.trial):
                with self.assertRaises(TypeError):
                    call(action)
                self.assertEqual(state_of(shop), before)
        # Behind them promises are looked at again.
        with self.assertRaises(NotKept):
            shop.keep("line one to turned")

    def test_promises_at_the_end(self):
        shop = full("line one to two")
        before = state_of(shop)

        def broken_on_the_way(inner):
            inner.lay("line", "one", (9, 7, 0, 0))
            inner.keep("line one to turned")
            self.assertIs(inner.kept("line one to two")[0], False)
            inner.lay("line", "two", (0, 9, 7, 0))

        shop.attempt(broken_on_the_way)
        self.assertEqual(shop.promises(), ("line one to two", "line one to turned"))
        shop.undo()
        self.assertEqual(state_of(shop), before)

        def broken(inner):
            inner.drop("fall")
            inner.lay("line", "one", (9, 7, 0, 0))

        def never_made(inner):
            inner.keep(" line one to turned")
            inner.keep("line one never two")

        def without_name(inner):
            inner.put("yard line\nplaces 4\nend")

        for action, kind, fields in ((broken, NotKept, {"promise": "line one to two"}),
                                     (never_made, NotKept, {"promise": "line one to turned"}),
                                     (without_name, NoName, {"name": "one"})):
            for call in (shop.attempt, shop.trial):
                with self.assertRaises(kind) as caught:
                    call(action)
                for name, value in fields.items():
                    self.assertEqual(getattr(caught.exception, name), value)
                self.assertEqual(state_of(shop), before)
                shop.redo()
                shop.undo()

    def test_errors_of_keep_at_once(self):
        shop = Workshop(ALL)

        def action(inner):
            for text, kind, fields in (
                    ("line one to less", Unlike, {"what": "things"}), ("line one to", BadText, {"column": 12}),
                    ("line x to y", NoName, {"name": "x"}), ("fall high to low", BadTie, {"tie": (0, 1)})):
                check_error(self, kind, fields, inner.keep, text)
            inner.keep("line one to two")
            inner.lay("line", "two", (7, 0, 0, 0))
            # The promise is made already, but its errors come each time.
            check_error(self, Unlike, {"what": "things"}, inner.keep, "line one to two")
            inner.lay("line", "two", (0, 0, 7, 9))
            return inner.promises()

        self.assertEqual(shop.attempt(action), ("line one to two",))
        self.assertEqual(shop.trial(action), ("line one to two",))

    def test_undo_within(self):
        shop = full("line one to two")
        shop.drop("fall")
        shop.undo()
        before = state_of(shop)

        def action(inner):
            check_error(self, NothingToUndo, {}, inner.undo)
            check_error(self, NothingToRedo, {}, inner.redo)
            inner.drop("line")
            inner.drop("loop")
            inner.undo()
            inner.undo()
            self.assertEqual(state_of(inner), before)
            check_error(self, NothingToUndo, {}, inner.undo)
            inner.redo()
            self.assertEqual(inner.names(), ("loop", "fall"))

        shop.attempt(action)
        self.assertEqual(shop.names(), ("loop", "fall"))
        # What was taken back within is gone.
        check_error(self, NothingToRedo, {}, shop.redo)
        shop.undo()
        self.assertEqual(state_of(shop), before)

    def test_trial(self):
        shop = full("line one to two")
        shop.drop("fall")
        shop.undo()
        before = state_of(shop)

        def action(inner):
            inner.drop("line")
            inner.put("yard z\nplaces 1\nend")
            return inner.names()

        self.assertEqual(shop.trial(action), ("loop", "fall", "z"))
        self.assertEqual(state_of(shop), before)
        shop.redo()
        self.assertEqual(shop.names(), ("line", "loop"))
        shop.undo()
        shop.undo()
        check_error(self, NothingToUndo, {}, shop.undo)

    def test_within_one_another(self):
        shop = full("line one to two")
        before = state_of(shop)

        def break_it(inner):
            inner.lay("line", "one", (9, 7, 0, 0))
            return "broken"

        def mend(inner):
            inner.lay("line", "two", (0, 9, 7, 0))

        def outer(inner):
            # Within, promises are not looked at.
            self.assertEqual(inner.attempt(break_it), "broken")
            self.assertEqual(inner.trial(break_it), "broken")
            self.assertIs(inner.kept("line one to two")[0], False)
            inner.trial(mend)
            self.assertIs(inner.kept("line one to two")[0], False)
            inner.attempt(mend)
            behind = state_of(inner)
            inner.undo()
            inner.undo()
            self.assertEqual(state_of(inner), before)
            check_error(self, NothingToUndo, {}, inner.undo)
            inner.redo()
            inner.redo()
            self.assertEqual(state_of(inner), behind)
            check_error(self, NothingToRedo, {}, inner.redo)

        shop.attempt(outer)
        self.assertEqual(dict(shop.get("line").stands)["two"], (0, 9, 7, 0))
        shop.undo()
        self.assertEqual(state_of(shop), before)
        shop.trial(outer)
        self.assertEqual(state_of(shop), before)

        def caught_within(inner):
            inner.drop("fall")

            def wrong(innermost):
                innermost.drop("loop")
                innermost.drop("nothing")

            check_error(self, NoName, {"name": "nothing"}, inner.attempt, wrong)
            check_error(self, NoName, {"name": "nothing"}, inner.trial, wrong)
            return inner.names()

        self.assertEqual(shop.attempt(caught_within), ("line", "loop"))
        self.assertEqual(shop.names(), ("line", "loop"))

    def test_broken_inner_one(self):
        shop = full("line one to two")
        before = state_of(shop)
        with self.assertRaises(NotKept):
            shop.attempt(lambda inner: inner.attempt(lambda innermost: innermost.lay("line", "one", (9, 7, 0, 0))))
        with self.assertRaises(NotKept):
            shop.trial(lambda inner: inner.attempt(lambda innermost: innermost.lay("line", "one", (9, 7, 0, 0))))
        # A trial that stands within leaves nothing behind that could be broken.
        shop.attempt(lambda inner: inner.trial(lambda innermost: innermost.lay("line", "one", (9, 7, 0, 0))))
        self.assertEqual(state_of(shop), before)


class Model:
    """A workshop as the document's words have it: all is copied each time."""

    def __init__(self):
        self.yards, self.made, self.past, self.future, self.within = [], [], [], [], 0

    def now(self):
        return list(self.yards), list(self.made)

    def set(self, state):
        self.yards, self.made = list(state[0]), list(state[1])

    def spoken(self, name):
        for item in self.yards:
            if item[0] == name:
                return spoken_of(item[1])[0]
        raise NoName(name)

    def look(self, promise):
        name, one, word, other = promise.split()
        spoken = self.spoken(name)
        stands = dict(spoken.stands)
        for stand in (one, other):
            if stand not in stands:
                raise NoName(stand)
        return leads(settle(spoken.yard, stands[one], stands[other])) == (word == "to")

    def look_at_all(self):
        for promise in self.made:
            if not self.look(promise):
                raise NotKept(promise, None)

    def edit(self, change):
        before = self.now()
        try:
            change()
            if not self.within:
                self.look_at_all()
        except YardError:
            self.set(before)
            raise
        if self.now() != before:
            self.past.append(before)
            self.future = []

    def put(self, text):
        def change():
            for spoken in spoken_of(text):
                names = [item[0] for item in self.yards]
                at = names.index(spoken.name) if spoken.name in names else len(names)
                self.yards[at:at + 1] = [(spoken.name, text_of(spoken))]
        self.edit(change)

    def drop(self, name):
        def change():
            self.spoken(name)
            self.yards = [item for item in self.yards if item[0] != name]
            self.made = [promise for promise in self.made if promise.split()[0] != name]
        self.edit(change)

    def rename(self, name, new):
        def change():
            spoken = self.spoken(name)
            if new in [item[0] for item in self.yards]:
                raise TakenName(new)
            item = (new, text_of(Spoken(new, spoken.yard, spoken.stands)))
            self.yards = [item if known[0] == name else known for known in self.yards]
            self.made = [" ".join([new] + promise.split()[1:]) if promise.split()[0] == name else promise
                         for promise in self.made]
        self.edit(change)

    def lay(self, name, stand, row):
        def change():
            spoken = self.spoken(name)
            if len(row) != spoken.yard.places:
                raise BadRow(row)
            stands = dict(spoken.stands)
            stands[stand] = tuple(row)
            text = text_of(Spoken(name, spoken.yard, tuple(stands.items())))
            self.yards = [(name, text) if known[0] == name else known for known in self.yards]
        self.edit(change)

    def keep(self, text):
        self.look(text)

        def change():
            if text not in self.made:
                self.made.append(text)
        self.edit(change)

    def release(self, text):
        def change():
            if text not in self.made:
                raise NoName(text)
            self.made.remove(text)
        self.edit(change)

    def undo(self):
        if not self.past:
            raise NothingToUndo()
        self.future.append(self.now())
        self.set(self.past.pop())

    def redo(self):
        if not self.future:
            raise NothingToRedo()
        self.past.append(self.now())
        self.set(self.future.pop())

    def tried(self, action, is_trial):
        before, past, future = self.now(), self.past, self.future
        self.past, self.future = [], []
        self.within += 1
        told = None
        try:
            told = action(self)
            if self.within == 1:
                self.look_at_all()
            behind = self.now()
        except BaseException:
            behind = before
            raise
        finally:
            self.within -= 1
            self.past, self.future = past, future
            self.set(before)
        if not is_trial and behind != before:
            self.past.append(before)
            self.future = []
            self.set(behind)
        return told

    def attempt(self, action):
        return self.tried(action, False)

    def trial(self, action):
        return self.tried(action, True)


def drawn_yard(dice, name):
    """The text of a small yard with stands."""
    lines = [f"yard {name}", "places 3"]
    lines += [f"tie {at} {at + 1}" for at in range(2) if dice.randrange(4)]
    lines += ["ring 0 1 2"] if dice.randrange(3) == 0 else []
    things = ["1", "2", "."] if dice.randrange(9) else ["1", "1", "."]
    for stand in dice.sample(("p", "q", "r"), 3 if dice.randrange(7) else 2):
        lines.append(f"stand {stand} {' '.join(dice.sample(things, 3))}")
    return "\n".join(lines) + "\nend\n"


def drawn_call(dice, depth):
    """The name of a method, and arguments: at random, many of them wrong ones."""
    name, other = dice.sample(("a", "a", "b", "b", "c"), 2)
    one, two = dice.choice(("p", "q", "r")), dice.choice(("p", "q", "r"))
    promise = f"{name} {one} {dice.choice(('to', 'to', 'never'))} {two}"
    kind = dice.choice(["put", "put", "drop", "rename"] + ["lay"] * 3 + ["keep"] * 5 + ["release"] * 4
                       + ["undo", "undo", "redo", "redo", "attempt", "attempt", "trial"])
    if kind in ("attempt", "trial"):
        if depth == 3:
            return "undo", ()
        calls = [drawn_call(dice, depth + 1) for _ in range(dice.randrange(5))]
        is_caught = dice.randrange(3) > 0
        return kind, (lambda shop: [made_call(shop, call, is_caught) for call in calls],)
    row = dice.sample([1, 2, 0], 3) if dice.randrange(9) else [0, 1]
    arguments = {"put": (drawn_yard(dice, name),), "drop": (name,), "rename": (name, other), "keep": (promise,),
                 "lay": (name, one, row), "release": (promise,), "undo": (), "redo": ()}
    return kind, arguments[kind]


def made_call(shop, call, is_caught=True):
    """What a call tells or raises, and what is kept behind it."""
    kind, arguments = call
    try:
        told = getattr(shop, kind)(*arguments)
    except YardError as error:
        if not is_caught:
            raise
        told = (error.__class__.__name__, [value for name, value in vars(error).items() if name != "witness"])
    if isinstance(shop, Workshop):
        return told, shop.text(), list(shop.promises())
    return told, "".join(text for _, text in shop.yards), list(shop.made)


class ModelTest(unittest.TestCase):
    def test_drawn_calls(self):
        counts = {}
        for seed in range(60):
            dice = random.Random(seed)
            shop, model = Workshop(), Model()
            for at in range(60):
                call = drawn_call(dice, 0) if at > 2 else ("put", (drawn_yard(dice, "abc"[at]),))
                told = made_call(shop, call)
                self.assertEqual(told, made_call(model, call), (seed, at, call))
                name = told[0][0] if isinstance(told[0], tuple) else None
                counts[(call[0], name)] = counts.get((call[0], name), 0) + 1
                for promise in shop.promises():
                    self.assertIs(shop.kept(promise)[0], True)
        for kind in ("put", "lay", "keep", "attempt", "trial"):
            self.assertGreater(counts[(kind, None)], 10)
            self.assertGreater(counts.get((kind, "NotKept"), 0), 2, counts)


class SizesTest(unittest.TestCase):
    def test_six_yards(self):
        dice = random.Random(66)
        texts = []
        for number in range(6):
            lines = [f"yard yard{number}", "places 6"] + ["tie 0 1 2 3 4 5"] + ["ring 0 2 4"] * (number % 2)
            things = dice.sample(["1", "2", "3", "4", "5" if number % 3 else "4", "."], 6)
            for stand in range(5):
                lines.append(f"stand s{stand} {' '.join(dice.sample(things, 6))}")
            texts.append("\n".join(lines) + "\nend\n")
        shop = Workshop("".join(texts))
        for number in range(6):
            for one in range(5):
                for other in range(5):
                    is_kept, _ = shop.kept(f"yard{number} s{one} to s{other}")
                    shop.keep(f"yard{number} s{one} {'to' if is_kept else 'never'} s{other}")
        self.assertEqual(len(shop.promises()), 150)
        for number in range(6):
            spoken = shop.get(f"yard{number}")
            self.assertEqual(shop.many(f"yard{number}", "s0"), count_of(spoken.yard, spoken.stands[0][1]))
            shop.rename(f"yard{number}", f"y{number}")
        for number in range(6):
            shop.lay(f"y{number}", "s0", shop.get(f"y{number}").stands[0][1])
        shop.put(shop.text())
        for _ in range(6):
            shop.undo()
        self.assertEqual(shop.names(), tuple(f"yard{number}" for number in range(6)))
        for promise in shop.promises():
            self.assertEqual(promise, promise_text((promise.split()[0], promise.split()[2], promise.split()[1],
                                                    promise.split()[3])))


if __name__ == "__main__":
    unittest.main()
