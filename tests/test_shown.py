"""Points [2], [3], [5] and [6]: the columns that a question shows, and the errors of questions."""

import copy
import random
import unittest

import model
from keysthrough.books import Book, shown
from keysthrough.errors import DoubleName, InvalidName, InvalidQuestion, KeyTellError, UnknownColumn, UnknownTable

TABLES = [("p", ["id", "town"]), ("q", ["id", "of"]), ("one", ["x"])]
A = ("all", "p", "a")
B = ("all", "q", "b")
C = ("all", "p", "c")
D = ("all", "q", "d")
ONE = ("all", "one", "e")
LEFT = ("left", A, B, [])
BOTH = ("both", A, B)
NO_TABLE = ("all", "none", "n")


def book():
    return Book(TABLES, [("key", "p", ["id"])])


def wrapped(question):
    """The question, and sound ones that hold it, one or more brackets deeper."""
    v, w = ("all", "p", "v"), ("all", "p", "w")
    deep = question
    for _ in range(20):
        deep = ("where", deep, [])
    return [
        question,
        ("where", question, []),
        ("show", question, []),
        ("both", question, question),
        ("both", ("show", question, []), ("show", v, [])),
        ("both", ("show", v, []), ("show", question, [])),
        ("pair", question, v, []),
        ("where", ("show", ("where", question, []), []), []),
        ("pair", ("pair", ("show", question, []), v, []), w, [("v.id", "w.id")]),
        ("where", ("pair", ("where", question, []), v, []), []),
        deep,
    ]


class ShownTest(unittest.TestCase):
    def shows(self, question, columns):
        kept = copy.deepcopy(question)
        found = shown(book(), question)
        self.assertEqual(found, columns)
        self.assertIs(type(found), list)
        self.assertEqual(question, kept)

    def refused(self, question, error_class, value):
        """Check that a question raises just this error, which holds its lists anew, and is not changed."""
        kept = copy.deepcopy(question)
        with self.assertRaises(KeyTellError) as held:
            shown(book(), question)
        self.assertIs(type(held.exception), error_class, held.exception.value)
        self.assertEqual(held.exception.value, value)
        self.assertIs(type(held.exception.value), type(value))
        self.assertEqual(question, kept)
        self.all_new(held.exception.value, question)
        return held.exception.value

    def all_new(self, value, question):
        found = [id(one) for one in model.lists_in(value)]
        self.assertEqual(len(found), len(set(found)))
        self.assertEqual(set(found) & {id(one) for one in model.lists_in(question)}, set())

    def unsound(self, question, part=None):
        self.refused(question, InvalidQuestion, question if part is None else part)


class KindsTest(ShownTest):
    def test_all(self):
        self.shows(A, ["a.id", "a.town"])
        self.shows(("all", "q", "p"), ["p.id", "p.of"])
        self.shows(("all", "p", "abcdefgh"), ["abcdefgh.id", "abcdefgh.town"])
        self.shows(("all", "one", "z"), ["z.x"])

    def test_by_name(self):
        self.assertEqual(shown(question=A, book=book()), ["a.id", "a.town"])
        self.assertEqual(shown(book(), question=A), ["a.id", "a.town"])

    def test_pair_and_left(self):
        for word in ("pair", "left"):
            self.shows((word, A, B, []), ["a.id", "a.town", "b.id", "b.of"])
            self.shows((word, B, A, [("b.of", "a.id"), ("b.of", "a.id")]), ["b.id", "b.of", "a.id", "a.town"])
            self.shows((word, A, C, [("a.id", "c.id")]), ["a.id", "a.town", "c.id", "c.town"])
            self.shows((word, ("show", A, ["a.town"]), ("show", A, ["a.id"]), []), ["a.town", "a.id"])
            self.shows((word, ("show", A, []), A, []), ["a.id", "a.town"])

    def test_where(self):
        self.shows(("where", A, []), ["a.id", "a.town"])
        told = [("is", "a.id", 1), ("missing", "a.town"), ("same", "a.town", "a.id"), ("same", "a.id", "a.id")]
        self.shows(("where", A, told), ["a.id", "a.town"])
        self.shows(("where", A, [("is", "a.town", -999)] * 80), ["a.id", "a.town"])

    def test_show(self):
        self.shows(("show", A, []), [])
        self.shows(("show", A, ["a.town"]), ["a.town"])
        self.shows(("show", A, ["a.town", "a.id"]), ["a.town", "a.id"])
        self.shows(("show", ("show", LEFT, ["b.of", "a.id"]), ["a.id"]), ["a.id"])
        self.shows(("show", ("show", A, []), []), [])

    def test_both(self):
        self.shows(BOTH, ["a.id", "a.town"])
        self.shows(("both", B, A), ["b.id", "b.of"])
        self.shows(("both", A, A), ["a.id", "a.town"])
        self.shows(("both", A, ("show", A, ["a.town", "a.id"])), ["a.id", "a.town"])
        self.shows(("both", ("show", A, []), ("show", B, [])), [])

    def test_once(self):
        self.shows(("once", A), ["a.id", "a.town"])
        self.shows(("once", ("once", ("show", A, ["a.town"]))), ["a.town"])

    def test_the_lists_are_new(self):
        told = ["a.town", "a.id"]
        question = ("show", A, told)
        here = book()
        found = shown(here, question)
        self.assertIsNot(found, told)
        self.assertIsNot(shown(here, question), found)
        found.clear()
        self.assertEqual([shown(here, question), told], [["a.town", "a.id"]] * 2)
        told.pop(0)
        self.assertEqual(shown(here, question), ["a.id"])
        shown(here, A).clear()
        shown(here, ("once", A)).clear()
        self.assertEqual([shown(here, A), here.tables], [["a.id", "a.town"], TABLES])

    def test_eight_tables(self):
        great = Book([(name, list("abcdefgh")) for name in "pqrstu"], [])
        question = ("all", "p", "a")
        for short in "bcdefgh":
            question = ("left", question, ("all", "u", short), [("a.a", short + ".h")])
        names = [short + "." + column for short in "abcdefgh" for column in "abcdefgh"]
        self.assertEqual(shown(great, question), names)
        self.assertEqual(shown(great, ("where", ("show", question, names[::-1]), [])), names[::-1])

    def test_24_brackets(self):
        question = A
        for place in range(24):
            question = [("once", question), ("where", question, []), ("show", question, ["a.id", "a.town"])][place % 3]
        self.shows(question, ["a.id", "a.town"])


class FormTest(ShownTest):
    def test_no_form(self):
        for question in [
            (), ("all",), ("all", "p"), ("all", "p", "a", "b"), ("all", "p", "a", []), ("pair",), ("pair", A, B),
            ("pair", A, B, [], []), ("left", A, B), ("left", A, B, [], []), ("where", A), ("where", A, [], []),
            ("show",), ("show", A), ("show", A, ["a.id"], []), ("both", A), ("both", A, B, []), ("both",), ("once",),
            ("once", A, []), ("once", A, A), ("every", "p", "a"), ("", "p", "a"), ("All", "p", "a"), ("one ~ {", A),
            ("p", "all", "a"), ("pairs", A, B, []), ("lef", A, B, []), ("key", "p", ["id"]), ("is", "a.id", 1),
            ("all p as a",),
        ]:
            self.unsound(question)
            self.unsound(("once", question), question)
            self.unsound(("show", question, ["nope"]), question)
            self.unsound(("where", question, [("missing", "nope")]), question)
            for word in ("pair", "left"):
                self.unsound((word, question, NO_TABLE, []), question)
                self.unsound((word, A, question, [("x", "y")]), question)
            self.unsound(("both", question, NO_TABLE), question)
            self.unsound(("both", A, question), question)

    def test_form_ahead_of_parts(self):
        for question in [
            ("pair", NO_TABLE, ()), ("left", (), NO_TABLE), ("both", NO_TABLE, (), []), ("once", NO_TABLE, []),
            ("where", (),), ("show", NO_TABLE), ("every", NO_TABLE, ()), ("all", "none", "A", 1), ("all", "none"),
        ]:
            self.unsound(question)

    def test_what_an_error_holds_is_new(self):
        told = ["a.id"]
        question = ("pair", ("show", A, told), ("show", A, told), told, told)
        value = self.refused(question, InvalidQuestion, question)
        value[3].clear()
        value[1][2].append("x")
        self.assertEqual([told, question[3]], [["a.id"]] * 2)
        value = self.refused(question, InvalidQuestion, question)
        told.clear()
        self.assertEqual(value[1], ("show", A, ["a.id"]))

    def test_an_unsound_part_is_held_new(self):
        told = ["a.id"]
        part = ("once", ("both", ("show", LEFT, told), ("show", ("where", A, [("is", "a.id", 3)]), told)))
        self.refused(("show", part, ["nope"]), InvalidQuestion, part)
        self.refused(part, InvalidQuestion, part)
        self.refused(("both", ("show", A, []), ("show", A, told)), InvalidQuestion,
                     ("both", ("show", A, []), ("show", A, ["a.id"])))


class OrderTest(ShownTest):
    def test_names_and_tables(self):
        for short in ["", "A", "a1", "abcdefghi", "a.b", "a b", "{", "`", "~"]:
            self.refused(("all", "p", short), InvalidName, short)
            self.refused(("all", "none", short), InvalidName, short)
        for table in ["none", "", "P", "pq", "abcdefghi", "id", "a.id"]:
            self.refused(("all", table, "a"), UnknownTable, table)

    def test_errors_of_parts_ahead_of_own_ones(self):
        bad_parts = [
            (NO_TABLE, UnknownTable, "none"),
            (("all", "none", "A"), InvalidName, "A"),
            (("show", A, ["x", "x"]), UnknownColumn, "x"),
            (("show", A, ["a.id", "a.id"]), DoubleName, "a.id"),
            (("once", LEFT), InvalidQuestion, ("once", LEFT)),
            ((), InvalidQuestion, ()),
        ]
        for part, error_class, value in bad_parts:
            self.refused(("once", part), error_class, value)
            self.refused(("show", part, ["no", "no"]), error_class, value)
            self.refused(("where", part, [("same", "no", "non")]), error_class, value)
            self.refused(("both", part, ("show", A, [])), error_class, value)
            self.refused(("both", ("show", A, []), part), error_class, value)
            for word in ("pair", "left"):
                self.refused((word, part, LEFT, [("no", "non")]), error_class, value)
                self.refused((word, LEFT, part, [("no", "non")]), error_class, value)
                self.refused((word, ("where", part, [("missing", "no")]), part, []), error_class, value)

    def test_one_part_ahead_of_the_other(self):
        for question in [("pair", NO_TABLE, (), []), ("left", NO_TABLE, (), []), ("both", NO_TABLE, ())]:
            self.refused(question, UnknownTable, "none")
        for question in [("pair", (), NO_TABLE, []), ("left", (), NO_TABLE, []), ("both", (), NO_TABLE)]:
            self.refused(question, InvalidQuestion, ())
        late = ("once", LEFT)
        for question in [("pair", late, NO_TABLE, []), ("left", late, NO_TABLE, []), ("both", late, NO_TABLE)]:
            self.refused(question, InvalidQuestion, late)

    def test_columns_of_pairs(self):
        for word in ("pair", "left"):
            self.refused((word, A, B, [("no", "non")]), UnknownColumn, "no")
            self.refused((word, A, B, [("a.id", "non"), ("no", "b.id")]), UnknownColumn, "non")
            self.refused((word, A, B, [("no", "b.id"), ("a.id", "non")]), UnknownColumn, "no")
            self.refused((word, A, B, [("a.id", "b.id"), ("a.id", "a.id")]), UnknownColumn, "a.id")
            self.refused((word, A, B, [("b.id", "a.id")]), UnknownColumn, "b.id")
            self.refused((word, A, B, [("b.id", "b.id")]), UnknownColumn, "b.id")
            self.refused((word, A, B, [("id", "b.id")]), UnknownColumn, "id")
            self.refused((word, A, B, [("a.id", "b.town")]), UnknownColumn, "b.town")
            self.refused((word, ("show", A, ["a.id"]), B, [("a.town", "b.id")]), UnknownColumn, "a.town")
            self.refused((word, A, ("show", B, []), [("a.town", "b.id")]), UnknownColumn, "b.id")
            self.refused((word, A, ("both", B, C), [("a.id", "c.id")]), UnknownColumn, "c.id")

    def test_columns_of_conditions(self):
        for told, name in [
            ([("is", "no", 1)], "no"), ([("missing", "no")], "no"), ([("same", "no", "a.id")], "no"),
            ([("same", "a.id", "no")], "no"), ([("same", "no", "non")], "no"), ([("is", "id", 1)], "id"),
            ([("missing", "a.id"), ("same", "a.id", "non"), ("is", "no", 2)], "non"), ([("is", "b.id", 0)], "b.id"),
            ([("is", "a.id", 1), ("missing", "a.of"), ("missing", "no")], "a.of"), ([("missing", "")], ""),
            ([("is", "a.town", 1)] * 20 + [("same", "a.town", "c.town")], "c.town"),
        ]:
            self.refused(("where", A, told), UnknownColumn, name)
        self.refused(("where", BOTH, [("missing", "b.id")]), UnknownColumn, "b.id")
        self.refused(("where", ("show", A, ["a.id"]), [("missing", "a.town")]), UnknownColumn, "a.town")

    def test_columns_of_show(self):
        self.refused(("show", A, ["no"]), UnknownColumn, "no")
        self.refused(("show", A, ["a.id", "no", "non"]), UnknownColumn, "no")
        self.refused(("show", A, ["town"]), UnknownColumn, "town")
        self.refused(("show", BOTH, ["a.id", "b.of"]), UnknownColumn, "b.of")
        self.refused(("show", ("show", A, ["a.id"]), ["a.town"]), UnknownColumn, "a.town")

    def test_unknown_columns_ahead_of_double_ones(self):
        self.refused(("show", A, ["a.id", "a.id", "no"]), UnknownColumn, "no")
        self.refused(("show", A, ["no", "no"]), UnknownColumn, "no")
        for word in ("pair", "left"):
            self.refused((word, A, A, [("a.id", "a.id"), ("a.town", "no")]), UnknownColumn, "no")

    def test_columns_that_stand_twice(self):
        self.refused(("show", A, ["a.id", "a.id"]), DoubleName, "a.id")
        self.refused(("show", A, ["a.town", "a.id", "a.town", "a.id"]), DoubleName, "a.town")
        self.refused(("show", A, ["a.town", "a.id", "a.id", "a.town"]), DoubleName, "a.id")
        self.refused(("show", A, ["a.id", "a.town", "a.town"]), DoubleName, "a.town")
        for word in ("pair", "left"):
            self.refused((word, A, A, []), DoubleName, "a.id")
            self.refused((word, A, ("all", "q", "a"), [("a.id", "a.of")]), DoubleName, "a.id")
            self.refused((word, ("show", A, ["a.town"]), A, []), DoubleName, "a.town")
            self.refused((word, A, ("pair", B, ("show", A, ["a.town"]), []), []), DoubleName, "a.town")
            self.refused((word, A, ("show", A, ["a.town", "a.id"]), []), DoubleName, "a.town")
            self.refused((word, A, BOTH, []), DoubleName, "a.id")

    def test_double_columns_ahead_of_what_else_is_unsound(self):
        self.refused(("left", A, ("both", A, B), []), DoubleName, "a.id")
        self.refused(("left", A, ("left", B, A, []), []), DoubleName, "a.id")
        self.refused(("pair", A, ("left", B, A, []), []), DoubleName, "a.id")

    def test_unknown_columns_ahead_of_what_is_unsound(self):
        self.refused(("left", C, BOTH, [("c.id", "no")]), UnknownColumn, "no")
        self.refused(("pair", C, LEFT, [("no", "a.id")]), UnknownColumn, "no")


class SoundTest(ShownTest):
    def test_both_with_unlike_numbers_of_columns(self):
        for one, other in [(A, ONE), (ONE, A), (A, ("show", A, [])), (("show", A, []), A), (("pair", A, B, []), C)]:
            self.unsound(("both", one, other))
            self.unsound(("show", ("both", one, other), ["no"]), ("both", one, other))

    def test_left_in_once(self):
        for deep in wrapped(LEFT):
            self.unsound(("once", deep))
            self.unsound(("where", ("once", deep), [("missing", "no")]), ("once", deep))

    def test_left_in_the_other_part_of_a_pair(self):
        held = ("left", C, D, [])
        self.unsound(("pair", A, held, [("a.id", "c.id")]))
        for deep in wrapped(held):
            self.unsound(("pair", A, deep, []))
            self.unsound(("pair", ("pair", A, deep, []), B, [("no", "b.id")]), ("pair", A, deep, []))

    def test_left_and_both_in_the_other_part_of_a_left(self):
        for held in [("left", C, D, []), ("both", C, D), ("both", C, C), ("once", ("both", C, D))]:
            for deep in wrapped(held):
                self.unsound(("left", A, deep, []))
                self.unsound(("show", ("left", A, deep, []), ["no"]), ("left", A, deep, []))
        self.unsound(("left", A, ("once", ("show", ("both", C, D), ["c.id"])), [("a.id", "c.id")]))
        self.unsound(("left", A, ("pair", C, ("both", D, D), []), []))
        self.unsound(("left", A, ("where", ("pair", C, ("where", ("both", D, D), []), []), []), []))
        self.unsound(("left", A, ("pair", ("left", C, D, []), ONE, []), []))

    def test_the_innermost_holder_is_found_first(self):
        inner = ("pair", C, ("left", D, ONE, []), [])
        self.unsound(("pair", A, inner, []), inner)
        self.unsound(("left", A, inner, []), inner)
        self.unsound(("once", inner), inner)
        self.unsound(("once", ("once", LEFT)), ("once", LEFT))
        self.unsound(("left", A, ("left", C, ("both", D, D), []), []), ("left", C, ("both", D, D), []))

    def test_where_left_and_both_may_stand(self):
        held = ("left", C, D, [])
        names, own = ["c.id", "c.town", "d.id", "d.of"], ["a.id", "a.town"]
        self.shows(("left", held, A, []), names + own)
        self.shows(("pair", held, A, []), names + own)
        self.shows(("both", held, held), names)
        self.shows(("both", ("pair", A, B, []), held), ["a.id", "a.town", "b.id", "b.of"])
        self.shows(("where", held, [("missing", "d.id")]), names)
        self.shows(("show", held, ["d.of"]), ["d.of"])
        self.shows(("left", ("both", C, C), A, []), ["c.id", "c.town"] + own)
        self.shows(("left", ("left", ("both", C, D), A, []), B, []), ["c.id", "c.town", *own, "b.id", "b.of"])
        self.shows(("pair", ("both", C, C), A, []), ["c.id", "c.town"] + own)
        self.shows(("pair", A, ("both", C, C), []), own + ["c.id", "c.town"])
        self.shows(("pair", A, ("where", ("both", C, C), []), []), own + ["c.id", "c.town"])
        self.shows(("pair", A, ("once", ("both", C, C)), []), own + ["c.id", "c.town"])
        self.shows(("once", ("both", C, C)), ["c.id", "c.town"])
        self.shows(("once", ("pair", C, ("both", D, D), [])), names)
        self.shows(("once", ("once", ("both", C, C))), ["c.id", "c.town"])
        self.shows(("both", ("both", C, C), ("both", C, D)), ["c.id", "c.town"])
        self.shows(("left", A, ("once", ("where", ("pair", C, D, []), [])), []), own + names)
        self.shows(("left", ("once", ("both", C, C)), A, []), ["c.id", "c.town"] + own)
        self.shows(("both", ("once", C), ("show", held, ["d.of", "c.id"])), ["c.id", "c.town"])


class DrawnTest(ShownTest):
    def compare(self, tables, question):
        columns, error = model.look(tables, question)
        here = Book(tables, [])
        if error is None:
            self.assertEqual(shown(here, question), columns)
            return 0
        with self.assertRaises(KeyTellError) as held:
            shown(here, question)
        self.assertEqual((type(held.exception).__name__, held.exception.value), error)
        self.all_new(held.exception.value, question)
        return 1

    def test_drawn_questions(self):
        draw = random.Random(2)
        refused = 0
        for _ in range(1500):
            tables = model.draw_tables(draw, 6, 8)
            question = model.draw_question(draw, tables, draw.randint(1, 8), draw.randint(1, 7), list("abcdefgh"))
            kept = copy.deepcopy(question)
            self.assertEqual(self.compare(tables, question), 0)
            for _ in range(draw.randint(1, 3)):
                worse = question if draw.random() < 0.5 else model.spoilt(draw, question)
                worse = model.spoilt(draw, worse) if worse != () and model.look(tables, worse)[1] is None else worse
                refused += self.compare(tables, worse)
            self.assertEqual(question, kept)
        self.assertGreater(refused, 1000)


if __name__ == "__main__":
    unittest.main()
