import copy
import unittest
from fractions import Fraction

from helpers import as_number, check_new, lists_in
from making import Maker
from searching import truth_of
from wheretrue import comparing
from wheretrue.errors import (
    BadEntry, BadForm, BadName, BadNumber, BadSign, BadSize, Circle, InUse, NothingToRedo, NothingToUndo, TooDeep,
    UnknownName, WhereError,
)
from wheretrue.formulas import check_formula
from wheretrue.sheet import Sheet, replay

TWO = [-2, 0, 1]
FAR, NEAR = ("sign", [-4, 0, 1], ">"), ("not", ("use", "far"))
INVERSE = ("some", 1, [([[0, 1]], [-1], "=")])
ATOM = ("sign", [0, 1], "<")
BAD_NAMES = [
    "", "1a", "A", "aB", "a b", "a_", "-a", "a" * 13, "a1b2c3d4e5f6g", "\u00e4", "a\n", "a.", "\u0661a", "a\u0661",
    None, True, 0, 7, ("a",), ["a"], {"a": 1}, b"a", 1.5,
]
ALL_NAMES = ["a", "b", "c", "d"]


def use(name):
    return ("use", name)


def nested(word, condition, many):
    """The condition within so many others."""
    for _ in range(many):
        condition = ("not", condition) if word == "not" else (word, condition, ATOM)
    return condition


def told(sheet):
    """All that a sheet tells."""
    names = sheet.names()
    return (names, [sheet.condition(name) for name in names], [sheet.whole(name) for name in names],
            [sheet.users(name) for name in names], sheet.can_undo, sheet.can_redo, sheet.journal(), len(sheet))


def sheet_of(*conditions):
    """A sheet with these conditions, (name, condition)."""
    sheet = Sheet()
    for name, condition in conditions:
        sheet.put(name, condition)
    return sheet


class SheetTest(unittest.TestCase):
    def check_error(self, error, sheet, deed, *arguments):
        """The deed raises the error and leaves the sheet and what is handed in as they were."""
        before = told(sheet)
        handed = copy.deepcopy(arguments)
        with self.assertRaises(error) as raised:
            getattr(sheet, deed)(*arguments)
        self.assertIs(type(raised.exception), error)
        self.assertEqual(told(sheet), before)
        self.assertEqual(arguments, handed)


class NamesTest(SheetTest):
    def test_an_empty_sheet(self):
        sheet = Sheet()
        self.assertEqual(sheet.names(), [])
        self.assertEqual(len(sheet), 0)
        self.assertEqual(sheet.journal(), [])
        self.assertIs(sheet.can_undo, False)
        self.assertIs(sheet.can_redo, False)
        self.assertNotIn("a", sheet)

    def test_right_names(self):
        for name in ("a", "z", "a0", "z9", "a" * 12, "abcdefghijkl", "mnopqrstuvwx", "y0123456789z", "not", "use"):
            sheet = sheet_of((name, ATOM))
            self.assertEqual(sheet.names(), [name])
            self.assertIn(name, sheet)
            sheet.rename(name, "other1")
            sheet.rename("other1", name)
            self.assertEqual(sheet.names(), [name])

    def test_wrong_names(self):
        for name in BAD_NAMES:
            self.check_error(BadName, Sheet(), "put", name, ATOM)
            self.check_error(BadName, sheet_of(("a", ATOM)), "put", name, ATOM)
            self.check_error(BadName, sheet_of(("a", ATOM)), "rename", "a", name)
            # Before all that may be wrong with the condition.
            self.check_error(BadName, Sheet(), "put", name, ("sign", [100], "<"))
            self.check_error(BadName, Sheet(), "put", name, use("b"))

    def test_names_len_and_in(self):
        sheet = sheet_of(("b", ATOM), ("a", FAR), ("c", use("a")))
        self.assertEqual(sheet.names(), ["b", "a", "c"])
        self.assertEqual(len(sheet), 3)
        self.assertEqual([name in sheet for name in ("a", "b", "c", "d", "")], [True, True, True, False, False])
        sheet.put("b", FAR)
        self.assertEqual(sheet.names(), ["b", "a", "c"])
        sheet.remove("b")
        self.assertEqual(sheet.names(), ["a", "c"])
        self.assertEqual(len(sheet), 2)
        sheet.put("b", FAR)
        self.assertEqual(sheet.names(), ["a", "c", "b"])


class WholeTest(SheetTest):
    def test_the_example_of_the_document(self):
        sheet = Sheet()
        self.assertIsNone(sheet.put("far", FAR))
        self.assertIsNone(sheet.put("near", NEAR))
        self.assertIs(sheet.true_at("near", (2, 1)), True)
        self.assertEqual(sheet.whole("near"), ("not", ("sign", [-4, 0, 1], ">")))
        self.assertEqual(sheet.condition("near"), ("not", ("use", "far")))

    def test_through_several_others(self):
        sheet = sheet_of(("a", ATOM), ("b", ("not", use("a"))), ("c", ("and", use("a"), use("b"))),
                         ("d", ("or", INVERSE, ("and", use("c"), use("a")))), ("e", use("d")))
        self.assertEqual(sheet.whole("a"), ATOM)
        self.assertEqual(sheet.whole("b"), ("not", ATOM))
        self.assertEqual(sheet.whole("c"), ("and", ATOM, ("not", ATOM)))
        self.assertEqual(sheet.whole("d"), ("or", INVERSE, ("and", ("and", ATOM, ("not", ATOM)), ATOM)))
        self.assertEqual(sheet.whole("e"), sheet.whole("d"))
        self.assertEqual(sheet.condition("d"), ("or", INVERSE, ("and", use("c"), use("a"))))
        # What is put under a name later counts in all that use it.
        sheet.put("a", FAR)
        self.assertEqual(sheet.whole("e"), ("or", INVERSE, ("and", ("and", FAR, ("not", FAR)), FAR)))
        self.assertEqual(sheet.names(), ["a", "b", "c", "d", "e"])
        sheet.put("b", INVERSE)
        self.assertEqual(sheet.whole("e"), ("or", INVERSE, ("and", ("and", FAR, INVERSE), FAR)))

    def test_a_long_chain(self):
        sheet = sheet_of(("n0", FAR))
        for k in range(1, 1500):
            sheet.put(f"n{k}", use(f"n{k - 1}"))
        self.assertEqual(sheet.whole("n1499"), FAR)
        sheet.put("n0", ATOM)
        self.assertEqual(sheet.whole("n1499"), ATOM)
        self.assertIs(sheet.true_at("n1499", (-1, 1)), True)
        self.check_error(Circle, sheet, "put", "n0", use("n1499"))

    def test_unknown_names(self):
        for sheet in (Sheet(), sheet_of(("a", ATOM), ("b", use("a")))):
            for name in ("c", "", "A", "a" * 20):
                for function in (sheet.condition, sheet.whole, sheet.users):
                    self.assertRaises(UnknownName, function, name)
                self.assertRaises(UnknownName, sheet.true_at, name, (0, 1))
                for other in ("a", "b", name):
                    self.assertRaises(UnknownName, sheet.same, name, other)
                    self.assertRaises(UnknownName, sheet.same, other, name)
                    self.assertRaises(UnknownName, sheet.follows, name, other)
                    self.assertRaises(UnknownName, sheet.follows, other, name)

    def test_users(self):
        sheet = sheet_of(("c", ATOM), ("b", ("and", use("c"), ("not", use("c")))), ("a", use("b")),
                         ("d", ("or", use("b"), use("c"))))
        self.assertEqual([sheet.users(name) for name in sheet.names()], [["b", "d"], ["a", "d"], [], []])
        sheet.put("a", use("c"))
        self.assertEqual(sheet.users("c"), ["b", "a", "d"])
        self.assertEqual(sheet.users("b"), ["d"])

    def test_what_is_handed_in_can_be_changed(self):
        block = ("some", 1, [([[0, 1]], [-1], "=")])
        condition = ("and", ("sign", [-4, 0, 1], ">"), ("or", block, ("not", block)))
        sheet = Sheet()
        sheet.put("a", condition)
        sheet.do_all([("put", "b", condition)])
        copied = replay([("put", "a", condition)])
        expected = copy.deepcopy(condition)
        for one in lists_in(condition):
            one.append(99)
        for one, name in ((sheet, "a"), (sheet, "b"), (copied, "a")):
            self.assertEqual(one.condition(name), expected)
            self.assertEqual(one.whole(name), expected)
        self.assertEqual(sheet.journal(), [("put", "a", expected), ("put", "b", expected)])
        sheet.undo()
        sheet.redo()
        self.assertEqual(sheet.condition("b"), expected)

    def test_deeds_and_journals_that_are_handed_in_can_be_changed(self):
        deeds = [("put", "a", ("sign", [0, 1], "<")), ("put", "b", INVERSE)]
        expected = copy.deepcopy(deeds)
        sheet = Sheet()
        sheet.do_all(deeds)
        self.assertEqual(deeds, expected)
        again = replay(deeds)
        self.assertEqual(deeds, expected)
        deeds[0][2][1].append(4)
        deeds.pop()
        self.assertEqual(sheet.journal(), expected)
        self.assertEqual(told(again), told(sheet))

    def test_what_is_returned_can_be_changed(self):
        sheet = sheet_of(("a", ("and", ATOM, INVERSE)), ("b", ("or", use("a"), INVERSE)), ("c", use("a")))
        sheet.rename("c", "d")
        expected = copy.deepcopy(told(sheet))
        for _ in range(2):
            found = told(sheet)
            places = [id(one) for one in lists_in(found)]
            self.assertEqual(len(places), len(set(places)))
            for one in lists_in(found):
                one.append("changed")
            self.assertEqual(told(sheet), expected)
        for one in lists_in(sheet.journal()):
            one.clear()
        sheet.undo()
        for one in lists_in(told(sheet)):
            one.clear()
        sheet.redo()
        self.assertEqual(told(sheet)[:4], expected[:4])

    def test_new_lists(self):
        sheet = sheet_of(("a", ("and", ATOM, INVERSE)), ("b", ("or", use("a"), INVERSE)))
        check_new(self, sheet.names)
        check_new(self, sheet.journal)
        for function in (sheet.condition, sheet.whole, sheet.users):
            check_new(self, function, "a")
            check_new(self, function, "b")

    def test_two_sheets(self):
        first, second = sheet_of(("a", ATOM)), Sheet()
        self.assertEqual(second.names(), [])
        second.put("a", FAR)
        self.assertEqual(first.condition("a"), ATOM)


class PutTest(SheetTest):
    def test_what_check_formula_raises(self):
        four = ("and", ("or", INVERSE, INVERSE), ("or", INVERSE, INVERSE))
        for error, condition in [
            (BadSize, ("sign", [1] * 6, "<")), (BadNumber, ("sign", [100], "<")), (BadNumber, ("sign", [0], "<")),
            (BadNumber, ("sign", [True], "<")), (BadSign, ("sign", [1], "==")), (BadForm, ("sign", [1])),
            (BadForm, ("use",)), (BadForm, ("use", "a", "b")), (BadForm, ("uses", "a")), (BadForm, ("no",)),
            (BadForm, ("not", use("a"), use("a"))), (BadForm, ("and", use("a"))),
            (BadForm, ("and", use("a"), use("a"), use("a"))), (BadSize, ("some", 3, [([[1]] * 3, [], "<")])),
            (BadSize, ("some", 1, [])), (BadSize, ("some", True, [([[1]], [], "<")])),
            (BadSize, ("some", 1, [([[1], [1]], [], "<")])), (BadNumber, ("some", 1, [([[20]], [], "<")])),
            (BadSign, ("some", 1, [([[1]], [], ">")])), (BadSize, four),
        ]:
            for sheet in (Sheet(), sheet_of(("a", ATOM)), sheet_of(("b", ATOM), ("a", use("b")))):
                self.check_error(error, sheet, "put", "a", condition)
                self.check_error(error, sheet, "put", "c", condition)
                # Before names that are not there and circles.
                self.check_error(error, sheet, "put", "a", ("and", use("zz"), condition))
                self.check_error(error, sheet, "put", "a", ("and", use("a"), condition))

    def test_what_check_formula_raises_of_depth_and_size(self):
        for error, condition in [
            (TooDeep, nested("not", ATOM, 7)), (TooDeep, nested("not", use("a"), 7)),
            (TooDeep, nested("not", use("zz"), 7)), (TooDeep, nested("not", ("use",), 7)),
            (BadForm, nested("not", ("use",), 6)), (BadSize, nested("and", ATOM, 6)),
            (TooDeep, nested("and", use("a"), 7)), (BadSize, nested("and", use("zz"), 6)[:2] + (("and", ATOM, ATOM),)),
        ]:
            for sheet in (Sheet(), sheet_of(("a", ATOM))):
                self.check_error(error, sheet, "put", "a", condition)

    def test_the_first_error_of_a_condition(self):
        sheet = sheet_of(("a", ATOM))
        self.check_error(BadForm, sheet, "put", "b", ("and", ("use",), ("sign", [100], "<")))
        self.check_error(BadNumber, sheet, "put", "b", ("and", ("sign", [100], "<"), ("use",)))
        self.check_error(BadForm, sheet, "put", "b", ("and", ("not", ("use", 1, 2)), ("sign", [1] * 9, "<")))

    def test_a_use_counts_as_no_atom(self):
        uses = nested("and", use("a"), 3)
        sheet = sheet_of(("a", ("sign", [1], "<")))
        sheet.put("b", nested("and", use("a"), 5))
        self.check_error(BadSize, sheet, "put", "b", nested("and", use("a"), 6))
        sheet.put("b", ("and", uses, use("a")))
        self.assertEqual(sheet.condition("b"), ("and", uses, use("a")))
        # Six sign atoms in the condition alone are right, but the whole formula has seven.
        six = ("and", ("and", ATOM, ATOM), ("and", ("and", ATOM, ATOM), ("and", ATOM, ATOM)))
        check_formula(six)
        self.check_error(BadSize, sheet, "put", "b", ("and", use("a"), six))
        sheet.put("c", ("sign", [1], "<"))
        sheet.put("blocks", ("or", INVERSE, ("or", INVERSE, INVERSE)))
        sheet.put("b", ("and", use("blocks"), six))
        self.check_error(BadSize, sheet, "put", "b", ("and", use("blocks"), INVERSE))
        self.check_error(BadSize, sheet, "put", "b", ("and", use("blocks"), use("blocks")))

    def test_a_use_at_the_greatest_depth(self):
        sheet = sheet_of(("a", ATOM))
        sheet.put("b", nested("not", use("a"), 6))
        self.assertEqual(sheet.whole("b"), nested("not", ATOM, 6))
        self.check_error(TooDeep, sheet, "put", "c", ("not", use("b")))
        self.check_error(TooDeep, sheet, "put", "a", ("not", ATOM))
        sheet.put("c", use("b"))
        self.check_error(TooDeep, sheet, "put", "a", ("not", ATOM))

    def test_unknown_names(self):
        sheet = sheet_of(("a", ATOM), ("b", use("a")))
        for other in ("c", "d", "", "A", "aa", 7, None, ("a",), ["a"]):
            self.check_error(UnknownName, sheet, "put", "b", use(other))
            self.check_error(UnknownName, sheet, "put", "c", ("and", use("a"), ("not", use(other))))
            # Before the circle.
            self.check_error(UnknownName, sheet, "put", "a", ("and", use("b"), use(other)))
            self.check_error(UnknownName, sheet, "put", "a", ("and", use(other), use("a")))

    def test_a_name_used_by_itself(self):
        # A new name is not there for itself.
        self.check_error(UnknownName, Sheet(), "put", "a", use("a"))
        self.check_error(UnknownName, sheet_of(("b", ATOM)), "put", "a", ("and", use("b"), use("a")))
        sheet = sheet_of(("a", ATOM))
        self.check_error(Circle, sheet, "put", "a", use("a"))
        self.check_error(Circle, sheet, "put", "a", ("and", ATOM, ("not", use("a"))))

    def test_circles(self):
        sheet = sheet_of(("a", ATOM), ("b", use("a")), ("c", ("not", use("b"))), ("d", ("and", use("c"), use("a"))),
                         ("e", FAR))
        for name, condition in [("a", use("b")), ("a", use("c")), ("a", use("d")), ("a", ("and", use("e"), use("d"))),
                                ("b", use("c")), ("b", use("d")), ("c", use("d")), ("b", ("or", use("a"), use("c")))]:
            self.check_error(Circle, sheet, "put", name, condition)
        sheet.put("e", use("d"))
        self.check_error(Circle, sheet, "put", "b", use("e"))
        self.check_error(Circle, sheet, "put", "a", use("e"))
        # Before what the whole formulas raise.
        deep = sheet_of(("a", ATOM), ("b", nested("not", use("a"), 6)))
        self.check_error(Circle, deep, "put", "a", ("not", use("b")))

    def test_no_circle_any_more(self):
        sheet = sheet_of(("a", ATOM), ("b", use("a")), ("c", use("b")))
        sheet.put("b", FAR)
        sheet.put("a", use("c"))
        self.assertEqual(sheet.whole("a"), FAR)
        self.check_error(Circle, sheet, "put", "b", use("a"))

    def test_whole_formulas_of_others(self):
        # What is put is right itself, but a name that uses it would be wrong.
        sheet = sheet_of(("a", ATOM), ("b", nested("and", use("a"), 5)), ("c", INVERSE))
        self.check_error(BadSize, sheet, "put", "a", ("and", ATOM, ATOM))
        sheet.put("a", INVERSE)
        sheet.put("d", ("or", use("a"), ("and", use("a"), use("c"))))
        self.check_error(BadSize, sheet, "put", "a", ("and", INVERSE, INVERSE))

    def test_which_of_several_counts(self):
        # With two sign atoms under a, b has too many of them, and with one "not" more, c is too deep.
        deep = nested("not", use("a"), 6)
        many = nested("and", use("a"), 5)
        new = ("and", ATOM, ATOM)
        first = sheet_of(("a", ATOM), ("b", many), ("c", deep))
        self.check_error(BadSize, first, "put", "a", new)
        second = sheet_of(("a", ATOM), ("c", deep), ("b", many))
        self.check_error(TooDeep, second, "put", "a", new)
        # The order of the sheet counts, not the one in which they use each other.
        third = sheet_of(("c", ATOM), ("b", ATOM), ("a", ATOM))
        third.put("c", deep)
        third.put("b", many)
        self.check_error(TooDeep, third, "put", "a", new)
        third.put("b", ATOM)
        third.put("c", ("not", ("use", "b")))
        third.put("b", nested("not", use("a"), 5))
        self.check_error(TooDeep, third, "put", "a", ("not", ATOM))
        # A new name is the last one, so the others, which are right, count before it.
        self.check_error(BadSize, third, "put", "z", nested("and", nested("and", use("a"), 1), 5))

    def test_the_place_of_a_name(self):
        sheet = sheet_of(("a", ATOM), ("b", FAR), ("c", INVERSE))
        sheet.put("b", use("a"))
        self.assertEqual(sheet.names(), ["a", "b", "c"])
        sheet.put("d", use("b"))
        self.assertEqual(sheet.names(), ["a", "b", "c", "d"])
        sheet.put("a", use("c"))
        self.assertEqual(sheet.names(), ["a", "b", "c", "d"])
        self.assertEqual(sheet.whole("d"), INVERSE)


class RemoveAndRenameTest(SheetTest):
    def test_remove(self):
        sheet = sheet_of(("a", ATOM), ("b", use("a")), ("c", FAR))
        self.assertIsNone(sheet.remove("c"))
        self.assertEqual(sheet.names(), ["a", "b"])
        self.check_error(InUse, sheet, "remove", "a")
        for name in ("c", "d", "", "A"):
            self.check_error(UnknownName, sheet, "remove", name)
        sheet.remove("b")
        sheet.remove("a")
        self.assertEqual(sheet.names(), [])
        self.check_error(UnknownName, sheet, "remove", "a")
        self.assertEqual(sheet.journal()[3:], [("remove", "c"), ("remove", "b"), ("remove", "a")])

    def test_rename(self):
        sheet = sheet_of(("a", ATOM), ("b", ("and", use("a"), ("not", use("a")))), ("c", ("or", use("b"), use("a"))))
        self.assertIsNone(sheet.rename("a", "x"))
        self.assertEqual(sheet.names(), ["x", "b", "c"])
        self.assertEqual(sheet.condition("b"), ("and", use("x"), ("not", use("x"))))
        self.assertEqual(sheet.condition("c"), ("or", use("b"), use("x")))
        self.assertEqual(sheet.whole("c"), ("or", ("and", ATOM, ("not", ATOM)), ATOM))
        sheet.rename("b", "a")
        self.assertEqual(sheet.names(), ["x", "a", "c"])
        self.assertEqual(sheet.condition("c"), ("or", use("a"), use("x")))
        self.assertEqual(sheet.users("x"), ["a", "c"])
        self.assertEqual(sheet.users("a"), ["c"])
        self.check_error(UnknownName, sheet, "remove", "b")
        sheet.put("x", FAR)
        self.assertEqual(sheet.whole("c"), ("or", ("and", FAR, ("not", FAR)), FAR))

    def test_to_the_same_name(self):
        sheet = sheet_of(("a", ATOM), ("b", use("a")))
        before = told(sheet)
        sheet.rename("a", "a")
        self.assertEqual(told(sheet)[:4], before[:4])
        self.assertEqual(sheet.journal()[2:], [("rename", "a", "a")])
        sheet.undo()
        self.assertEqual(told(sheet)[:4], before[:4])
        self.assertIs(sheet.can_redo, True)
        sheet.rename("b", "b")
        self.assertIs(sheet.can_redo, False)

    def test_errors_of_rename(self):
        sheet = sheet_of(("a", ATOM), ("b", use("a")))
        for name in ("c", "", "A"):
            for other in ("a", "b", "c", "d", "", 7, ["a"]):
                self.check_error(UnknownName, sheet, "rename", name, other)
        self.check_error(BadName, sheet, "rename", "a", "b")
        self.check_error(BadName, sheet, "rename", "b", "a")
        for other in BAD_NAMES:
            self.check_error(BadName, sheet, "rename", "b", other)


class UndoAndRedoTest(SheetTest):
    def test_nothing_to_do(self):
        sheet = Sheet()
        self.check_error(NothingToUndo, sheet, "undo")
        self.check_error(NothingToRedo, sheet, "redo")
        sheet.put("a", ATOM)
        self.check_error(NothingToRedo, sheet, "redo")
        self.assertIsNone(sheet.undo())
        self.check_error(NothingToUndo, sheet, "undo")
        self.assertIsNone(sheet.redo())
        self.check_error(NothingToRedo, sheet, "redo")

    def test_each_kind_of_deed(self):
        deeds = [("put", "a", ATOM), ("put", "b", ("and", use("a"), use("a"))), ("put", "a", FAR), ("rename", "a", "x"),
                 ("put", "c", INVERSE), ("remove", "b"), ("rename", "x", "x"), ("remove", "x"), ("put", "b", use("c"))]
        sheet = Sheet()
        states = [told(sheet)[:4]]
        for deed in deeds:
            getattr(sheet, deed[0])(*deed[1:])
            states.append(told(sheet)[:4])
            self.assertEqual([sheet.can_undo, sheet.can_redo], [True, False])
        for k in reversed(range(len(deeds))):
            sheet.undo()
            self.assertEqual(told(sheet)[:4], states[k])
            self.assertEqual([sheet.can_undo, sheet.can_redo], [k > 0, True])
        for k in range(len(deeds)):
            sheet.redo()
            self.assertEqual(told(sheet)[:4], states[k + 1])
            self.assertEqual([sheet.can_undo, sheet.can_redo], [True, k < len(deeds) - 1])
        many = len(deeds)
        self.assertEqual(sheet.journal(), deeds + [("undo",)] * many + [("redo",)] * many)

    def test_what_takes_away_what_could_be_redone(self):
        for deed, *arguments in (["put", "b", FAR], ["put", "c", FAR], ["remove", "b"], ["rename", "a", "z"],
                                 ["rename", "a", "a"]):
            sheet = sheet_of(("a", ATOM), ("b", FAR), ("c", INVERSE), ("d", INVERSE))
            sheet.undo()
            sheet.undo()
            self.assertIs(sheet.can_redo, True)
            getattr(sheet, deed)(*arguments)
            self.assertIs(sheet.can_redo, False)
            self.check_error(NothingToRedo, sheet, "redo")
            sheet.undo()
            self.assertEqual(sheet.names(), ["a", "b"])
            sheet.redo()

    def test_what_does_not(self):
        sheet = sheet_of(("a", ATOM), ("b", use("a")), ("c", INVERSE))
        sheet.undo()
        for error, deed, *arguments in (
            [BadName, "put", "A", FAR], [Circle, "put", "a", use("b")], [InUse, "remove", "a"],
            [UnknownName, "remove", "c"], [BadName, "rename", "a", "b"], [BadSign, "put", "c", ("sign", [], "")],
        ):
            self.check_error(error, sheet, deed, *arguments)
            self.assertIs(sheet.can_redo, True)
        sheet.undo()
        sheet.redo()
        sheet.redo()
        self.assertEqual(sheet.names(), ["a", "b", "c"])

    def test_between_undo_and_redo(self):
        sheet = sheet_of(("a", ATOM), ("b", FAR))
        sheet.undo()
        sheet.put("c", INVERSE)
        sheet.undo()
        sheet.undo()
        self.assertEqual(sheet.names(), [])
        sheet.redo()
        sheet.redo()
        self.assertEqual(sheet.names(), ["a", "c"])
        self.check_error(NothingToRedo, sheet, "redo")


class TruthsTest(SheetTest):
    def test_true_at(self):
        sheet = sheet_of(("far", FAR), ("near", NEAR), ("both", ("and", use("near"), ("or", use("far"), INVERSE))))
        for t, expected in [((0, 1), [False, True, False]), ((2, 1), [False, True, True]),
                            ((3, 1), [True, False, False])]:
            for name, one in zip(("far", "near", "both"), expected):
                self.assertIs(sheet.true_at(name, t), one)
        self.assertIs(sheet.true_at("near", (10 ** 30, 5 * 10 ** 29)), True)
        self.assertIs(sheet.true_at("near", (10 ** 30 + 1, 5 * 10 ** 29)), False)

    def test_same_and_follows(self):
        sheet = sheet_of(("far", FAR), ("near", NEAR), ("small", ("sign", TWO, "<")), ("close", ("not", use("far"))),
                         ("edge", ("or", use("small"), ("sign", TWO, "="))), ("none", ("and", use("far"), use("near"))))
        self.assertIs(sheet.same("near", "close"), True)
        self.assertIs(sheet.same("near", "far"), False)
        self.assertIs(sheet.same("small", "edge"), False)
        for name, other, expected in [("small", "near", True), ("near", "small", False), ("small", "edge", True),
                                      ("edge", "small", False), ("none", "far", True), ("far", "none", False),
                                      ("far", "far", True), ("edge", "far", False)]:
            self.assertIs(sheet.follows(name, other), expected)

    def test_at_random(self):
        maker = Maker(110)
        for _ in range(15):
            sheet = sheet_of(("a", maker.formula(1, 1)), ("b", maker.formula(1, 0)))
            sheet.put("c", maker.source.choice([("and", use("a"), use("b")), ("or", use("b"), ("not", use("a")))]))
            for name in sheet.names():
                for t in (Fraction(0), Fraction(1, 2), Fraction(-3)):
                    self.assertIs(sheet.true_at(name, as_number(t)), truth_of(sheet.whole(name), t))
                for other in sheet.names():
                    wholes = (sheet.whole(name), sheet.whole(other))
                    self.assertIs(sheet.same(name, other), comparing.same(*wholes))
                    self.assertIs(sheet.follows(name, other), comparing.follows(*wholes))


class DoAllTest(SheetTest):
    def test_all_go_through(self):
        sheet = sheet_of(("a", ATOM))
        self.assertIsNone(sheet.do_all([]))
        self.assertEqual(len(sheet.journal()), 1)
        deeds = [("put", "b", use("a")), ("rename", "a", "x"), ("undo",), ("redo",), ("put", "c", INVERSE),
                 ("remove", "c"), ("undo",), ("undo",)]
        self.assertIsNone(sheet.do_all(deeds))
        self.assertEqual(sheet.journal(), [("put", "a", ATOM)] + deeds)
        self.assertEqual(sheet.names(), ["x", "b"])
        self.assertEqual(sheet.condition("b"), use("x"))
        self.assertIs(sheet.can_redo, True)
        # Each of them is undone by itself.
        sheet.undo()
        self.assertEqual(sheet.names(), ["a", "b"])
        sheet.undo()
        self.assertEqual(sheet.names(), ["a"])

    def test_one_fails(self):
        right = [("put", "c", INVERSE), ("undo",), ("redo",), ("undo",), ("undo",), ("put", "d", FAR),
                 ("rename", "d", "e")]
        for error, deed in [
            (BadName, ("put", "A", ATOM)), (UnknownName, ("put", "d", use("q"))), (Circle, ("put", "a", use("a"))),
            (BadSign, ("put", "d", ("sign", [], ""))), (UnknownName, ("remove", "q")), (NothingToRedo, ("redo",)),
            (UnknownName, ("rename", "q", "r")), (BadName, ("rename", "a", "")),
        ]:
            for place in (0, 3, len(right)):
                sheet = sheet_of(("a", ATOM), ("b", use("a")), ("f", FAR))
                sheet.undo()
                if deed == ("redo",) and place != len(right):
                    continue
                deeds = right[:place] + [deed] + right[place:]
                self.check_error(error, sheet, "do_all", deeds)
                # What could be redone still can be.
                sheet.redo()
                self.assertEqual(sheet.names(), ["a", "b", "f"])
                sheet.undo()
                sheet.undo()
                self.assertEqual(sheet.names(), ["a"])

    def test_what_is_no_deed(self):
        for deed in (("do", "c"), ("put", "c"), ("undo", "c"), ("remove",), ("rename", "a")):
            self.check_error(BadForm, sheet_of(("a", ATOM)), "do_all", [("put", "b", FAR), deed])
            with self.assertRaises(BadEntry) as raised:
                replay([("put", "a", ATOM), deed])
            self.assertEqual(raised.exception.place, 1)

    def test_too_many_undone(self):
        sheet = sheet_of(("a", ATOM), ("b", use("a")))
        self.check_error(NothingToUndo, sheet, "do_all", [("undo",)] * 3)
        self.check_error(NothingToUndo, sheet, "do_all", [("put", "c", FAR)] + [("undo",)] * 4)
        self.check_error(NothingToRedo, sheet, "do_all", [("undo",), ("redo",), ("redo",)])
        self.check_error(InUse, sheet, "do_all", [("undo",), ("redo",), ("remove", "a")])
        sheet.do_all([("undo",)] * 2 + [("redo",)])
        self.assertEqual(sheet.names(), ["a"])


class ReplayTest(SheetTest):
    def check_replay(self, sheet):
        journal = sheet.journal()
        before = copy.deepcopy(journal)
        again = replay(journal)
        self.assertEqual(journal, before)
        self.assertEqual(told(again), told(sheet))
        for name in sheet.names():
            for t in ((0, 1), (1, 1), (-5, 2)):
                self.assertIs(again.true_at(name, t), sheet.true_at(name, t))
        while sheet.can_undo:
            sheet.undo()
            again.undo()
            self.assertEqual(told(again), told(sheet))
        while sheet.can_redo:
            sheet.redo()
            again.redo()
        self.assertEqual(told(again), told(sheet))

    def test_all_five_kinds(self):
        self.check_replay(Sheet())
        sheet = sheet_of(("a", ATOM), ("b", ("or", use("a"), INVERSE)))
        sheet.put("a", FAR)
        sheet.rename("a", "c")
        sheet.put("d", use("b"))
        sheet.undo()
        sheet.redo()
        sheet.remove("d")
        sheet.undo()
        self.assertEqual(sheet.journal(), [
            ("put", "a", ATOM), ("put", "b", ("or", use("a"), INVERSE)), ("put", "a", FAR), ("rename", "a", "c"),
            ("put", "d", use("b")), ("undo",), ("redo",), ("remove", "d"), ("undo",),
        ])
        self.check_replay(sheet)

    def test_deeds_with_errors_are_not_told(self):
        sheet = sheet_of(("a", ATOM))
        for deed in ([("put", "A", ATOM)], [("remove", "q")], [("put", "b", FAR), ("redo",)]):
            self.assertRaises(WhereError, sheet.do_all, deed)
        self.assertRaises(NothingToRedo, sheet.redo)
        self.assertEqual(sheet.journal(), [("put", "a", ATOM)])
        self.check_replay(sheet)

    def test_bad_entries(self):
        right = [("put", "a", ATOM), ("put", "b", use("a")), ("undo",), ("redo",), ("rename", "a", "c"),
                 ("remove", "b")]
        self.assertEqual(replay(right).names(), ["c"])
        for entry in (("put", "A", ATOM), ("put", "z", use("z")), ("put", "z", ("sign", [100], "<")), ("remove", "z"),
                      ("rename", "z", "y"), ("rename", "z", 3), ("redo",), ("put", 7, ATOM), ("put", "d", ("not",))):
            for place in range(len(right) + 1):
                if entry == ("redo",) and place == 3:
                    continue
                journal = right[:place] + [entry] + right[place:]
                before = copy.deepcopy(journal)
                with self.assertRaises(BadEntry) as raised:
                    replay(journal)
                self.assertEqual(raised.exception.place, place)
                self.assertEqual(journal, before)
        deep = nested("not", use("a"), 6)
        for journal, place in [([("undo",)], 0), ([("redo",)], 0), (right[:2] + [("remove", "a")], 2),
                               (right[:2] + [("put", "a", use("b"))], 2), (right[:2] + [("rename", "a", "b")], 2),
                               (right + [("undo",)] * 5, 10), (right + [("undo",), ("redo",), ("redo",)], 8),
                               (right[:1] + [("put", "b", deep), ("put", "a", ("not", ATOM))], 2)]:
            with self.assertRaises(BadEntry) as raised:
                replay(journal)
            self.assertEqual(raised.exception.place, place)

    def test_at_random(self):
        """Many deeds, held against a sheet that keeps every state that there was, told in another way."""
        maker = Maker(111)
        seen = {}
        for _ in range(60):
            sheet, model = Sheet(), Model()
            for _ in range(40):
                deed = maker.source.choice(list(some_deeds(maker)))
                error = model.error_of(deed)
                seen[deed[0], error] = seen.get((deed[0], error), 0) + 1
                if error is None:
                    self.assertIsNone(getattr(sheet, deed[0])(*deed[1:]))
                    model.do(deed)
                else:
                    self.check_error(error, sheet, deed[0], *deed[1:])
                self.assertEqual(list(model.now), sheet.names())
                self.assertEqual(model.now, {name: sheet.condition(name) for name in sheet.names()})
                self.assertIs(sheet.can_undo, model.place > 0)
                self.assertIs(sheet.can_redo, model.place < len(model.states) - 1)
                self.assertEqual(model.journal, sheet.journal())
                for name in sheet.names():
                    self.assertEqual(sheet.whole(name), model.whole(model.now, name))
            self.check_replay(sheet)
        for word, errors in [("put", [UnknownName, Circle, TooDeep, BadSize]), ("remove", [UnknownName, InUse]),
                             ("rename", [UnknownName, BadName]), ("undo", [NothingToUndo]), ("redo", [NothingToRedo])]:
            for error in [None, *errors]:
                self.assertGreater(seen.get((word, error), 0), 5, (word, error))


def some_deeds(maker):
    """One deed of each kind, some of them more often."""
    name, other, third = [maker.source.choice(ALL_NAMES) for _ in range(3)]
    pair = ("and", use(other), use(third))
    conditions = [ATOM, INVERSE, use(other), ("not", use(other)), pair, ("and", pair, ("or", pair, pair)),
                  ("or", ("not", use(other)), ATOM), nested("not", use(other), 4)]
    for _ in range(8):
        yield ("put", name, maker.source.choice(conditions))
    yield ("remove", name)
    yield ("rename", name, other)
    yield ("undo",)
    yield ("redo",)


class Model:
    """What points 51 to 54 say, with all states kept."""

    def __init__(self):
        self.states = [{}]
        self.place = 0
        self.journal = []

    @property
    def now(self):
        return self.states[self.place]

    def uses(self, condition):
        if condition[0] == "use":
            return {condition[1]}
        if condition[0] in ("sign", "some"):
            return set()
        return set().union(*[self.uses(part) for part in condition[1:]])

    def whole(self, conditions, name):
        def put_in(condition):
            if condition[0] == "use":
                return self.whole(conditions, condition[1])
            if condition[0] in ("sign", "some"):
                return condition
            return (condition[0], *[put_in(part) for part in condition[1:]])
        return put_in(conditions[name])

    def is_reached(self, conditions, name, condition):
        return any(other == name or self.is_reached(conditions, name, conditions[other])
                   for other in self.uses(condition))

    def error_of(self, deed):
        word, *rest = deed
        if word == "undo":
            return NothingToUndo if self.place == 0 else None
        if word == "redo":
            return NothingToRedo if self.place == len(self.states) - 1 else None
        if word == "put":
            return self.error_of_put(*rest)
        if rest[0] not in self.now:
            return UnknownName
        if word == "rename":
            return BadName if rest[1] != rest[0] and rest[1] in self.now else None
        return InUse if any(rest[0] in self.uses(condition) for condition in self.now.values()) else None

    def error_of_put(self, name, condition):
        if not self.uses(condition) <= set(self.now):
            return UnknownName
        if self.is_reached(self.now, name, condition):
            return Circle
        conditions = {**self.now, name: condition}
        for other in conditions:
            try:
                check_formula(self.whole(conditions, other))
            except WhereError as e:
                return type(e)
        return None

    def do(self, deed):
        self.journal.append(deed)
        word, *rest = deed
        if word in ("undo", "redo"):
            self.place += 1 if word == "redo" else -1
            return
        after = dict(self.now)
        if word == "put":
            after[rest[0]] = rest[1]
        elif word == "remove":
            del after[rest[0]]
        else:
            after = {rest[1] if name == rest[0] else name: self.renamed(condition, *rest)
                     for name, condition in after.items()}
        self.states = self.states[:self.place + 1] + [after]
        self.place += 1

    def renamed(self, condition, name, other):
        if condition[0] == "use":
            return use(other) if condition[1] == name else condition
        if condition[0] in ("sign", "some"):
            return condition
        return (condition[0], *[self.renamed(part, name, other) for part in condition[1:]])


if __name__ == "__main__":
    unittest.main()
