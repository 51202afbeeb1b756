"""Points [2], [3], [7] and the interface of keys.py: what is told of written questions, and the errors."""

import copy
import random
import unittest

import model
from keysthrough.books import Book, shown
from keysthrough.errors import (
    DoubleName,
    InvalidName,
    InvalidQuestion,
    InvalidRule,
    KeyTellError,
    UnknownColumn,
    UnknownTable,
)
from keysthrough.keys import (
    alike_in_keys,
    can_answer,
    closure,
    counter,
    counter_settles,
    doubles,
    fewest_rules,
    is_key,
    least_keys,
    settles,
)
from keysthrough.stores import filled

TABLES = [("p", ["id", "town"]), ("q", ["id", "of"])]
RULES = [("key", "p", ["id"]), ("key", "q", ["id"])]
BOOK = Book(TABLES, RULES)
FREE = Book(TABLES, [])
A = ("all", "p", "a")
B = ("all", "q", "b")
C = ("all", "p", "c")
JOINED = ("pair", A, B, [("a.id", "b.of")])
LEFT = ("left", A, B, [("a.id", "b.of")])
NEVER = ("where", A, [("is", "a.id", 1), ("is", "a.id", 2)])


class KeysTest(unittest.TestCase):
    def least(self, book, question, *lots):
        self.assertEqual(least_keys(book, question), [lot.split() for lot in lots])

    def shows_no_key(self, book, question, columns, count):
        """The store that `counter` tells shows that the columns are no key, with so many rows."""
        self.shows_against(book, question, counter(book, question, columns), columns, count)
        self.assertIs(is_key(book, question, columns), False)

    def settles_not(self, book, question, columns, column, count):
        found = counter_settles(book, question, columns, column)
        self.shows_against(book, question, found, columns, count, shown(book, question).index(column))
        self.assertIs(settles(book, question, columns, column), False)
        self.assertNotIn(column, closure(book, question, columns))

    def shows_against(self, book, question, found, columns, count, place=None):
        self.assertIs(type(found), list)
        self.assertEqual(len(found), count)
        self.assertEqual({type(row) for row in found} | {type(row[1]) for row in found}, {tuple})
        order = [name for name, _ in book.tables]
        self.assertEqual([name for name, _ in found], sorted([name for name, _ in found], key=order.index))
        places = [shown(book, question).index(name) for name in columns]
        self.assertTrue(model.shows_against(filled(book, found)(question), places, place))

    def refused(self, error_class, value, call, *told, **named):
        kept = copy.deepcopy((told, named))
        with self.assertRaises(KeyTellError) as held:
            call(*told, **named)
        self.assertIs(type(held.exception), error_class)
        self.assertEqual(held.exception.value, value)
        self.assertEqual((told, named), kept)
        found = [id(one) for one in model.lists_in(held.exception.value)]
        self.assertEqual(len(found), len(set(found)))
        self.assertEqual(set(found) & {id(one) for one in model.lists_in([*told, *named.values()])}, set())


class TellingTest(KeysTest):
    def test_the_examples_of_the_document(self):
        self.assertIs(is_key(BOOK, JOINED, ["b.id"]), True)
        self.assertIs(is_key(BOOK, JOINED, ["a.id"]), False)
        self.assertEqual(least_keys(BOOK, JOINED), [["b.id"]])
        self.assertEqual(closure(BOOK, JOINED, ["b.of"]), ["a.id", "a.town", "b.of"])
        self.shows_no_key(BOOK, JOINED, ["a.id"], 3)
        self.assertIs(doubles(BOOK, JOINED), False)
        self.assertIs(doubles(BOOK, ("show", JOINED, ["a.id"])), True)
        self.assertIs(settles(BOOK, JOINED, ["a.id"], "a.town"), True)
        offered = [("key", "q", ["of"]), ("settles", "q", ["of"], "id")]
        self.assertEqual(fewest_rules(BOOK, JOINED, ["a.id"], offered), [[0], [1]])
        twice = ("both", A, C)
        self.assertEqual(least_keys(BOOK, twice), [])
        self.assertIs(doubles(BOOK, twice), True)
        self.assertEqual(least_keys(BOOK, ("once", twice)), [["a.id"]])
        self.assertEqual(least_keys(BOOK, ("where", A, [("is", "a.id", 4)])), [[]])

    def test_a_table(self):
        self.least(BOOK, A, "a.id")
        self.least(FREE, A)
        self.least(Book(TABLES, [("key", "p", ["town", "id"])]), A, "a.id a.town")
        self.least(Book(TABLES, [("key", "p", ["town"]), ("key", "p", ["id"])]), A, "a.id", "a.town")
        self.least(Book(TABLES, [("key", "p", ["id"]), ("settles", "p", ["town"], "id")]), A, "a.id", "a.town")
        self.least(Book(TABLES, [("key", "p", [])]), A, "")
        # What settles all columns need not tell two rows apart that are the same throughout.
        self.least(Book(TABLES, [("settles", "p", ["id"], "town")]), A)
        self.shows_no_key(Book(TABLES, [("settles", "p", ["id"], "town")]), A, ["a.id", "a.town"], 2)

    def test_missing_values_are_the_same_in_rules(self):
        none = ("where", A, [("missing", "a.id")])
        self.least(BOOK, none, "")
        self.assertIs(can_answer(BOOK, none, 2), False)
        self.assertEqual(closure(Book(TABLES, [("settles", "p", ["id"], "town")]), none, []), ["a.id", "a.town"])

    def test_missing_values_are_no_partners(self):
        self.assertIs(can_answer(BOOK, ("pair", none_of("a"), C, [("a.id", "c.id")]), 1), False)
        self.least(BOOK, ("left", none_of("a"), C, [("a.id", "c.id")]), "")
        # A row has itself as a partner if its value is not missing.
        self.least(BOOK, ("where", ("left", A, C, [("a.id", "c.id")]), [("missing", "c.id")]), "")
        self.shows_no_key(FREE, ("where", ("left", A, C, [("a.id", "c.id")]), [("missing", "c.id")]), [], 2)
        both = ("left", A, C, [("a.id", "c.id"), ("a.town", "c.town")])
        self.shows_no_key(BOOK, ("where", both, [("missing", "c.id"), ("missing", "c.town")]), [], 2)

    def test_the_same_value_is_not_missing(self):
        self.least(BOOK, ("where", A, [("same", "a.id", "a.town"), ("missing", "a.town")]), "")
        self.assertIs(can_answer(BOOK, ("where", A, [("same", "a.id", "a.id"), ("missing", "a.id")]), 1), False)
        self.assertIs(can_answer(BOOK, ("where", A, [("same", "a.id", "a.town"), ("is", "a.town", 0)]), 1), True)
        self.assertIs(can_answer(BOOK, ("where", A, [("same", "a.id", "a.town"), ("is", "a.town", 0)]), 2), False)

    def test_pair(self):
        self.least(BOOK, JOINED, "b.id")
        self.least(BOOK, ("pair", A, B, []), "a.id b.id")
        self.least(BOOK, ("pair", A, B, [("a.id", "b.id")]), "a.id", "b.id")
        self.least(BOOK, ("pair", A, C, [("a.town", "c.town")]), "a.id c.id")
        self.shows_no_key(BOOK, ("pair", A, B, []), ["a.id", "a.town", "b.of"], 3)
        self.shows_no_key(BOOK, JOINED, ["a.id", "a.town", "b.of"], 3)
        # One row of one table may be both of the rows in which a row of the answer stands.
        self.shows_no_key(FREE, ("pair", A, C, [("a.id", "c.id")]), ["a.id", "a.town", "c.id", "c.town"], 2)
        self.shows_no_key(FREE, ("pair", A, C, [("a.id", "c.town")]), ["c.id"], 2)

    def test_left(self):
        self.least(BOOK, LEFT, "a.id b.id")
        self.assertEqual(closure(BOOK, LEFT, ["a.id"]), ["a.id", "a.town", "b.of"])
        self.assertEqual(closure(BOOK, LEFT, ["b.of"]), ["b.of"])
        self.assertEqual(closure(BOOK, LEFT, ["a.id", "b.id"]), ["a.id", "a.town", "b.id", "b.of"])
        self.settles_not(BOOK, LEFT, ["b.id"], "a.id", 2)
        self.settles_not(BOOK, LEFT, ["a.id"], "b.id", 3)
        # A partner may have no id, as none has that is not there.
        self.settles_not(BOOK, LEFT, ["b.id"], "b.of", 3)
        # Without pairs each row has a partner, or none has one.
        self.assertIs(settles(BOOK, ("left", A, B, []), ["b.id"], "b.of"), True)
        self.least(Book(TABLES, [*RULES, ("key", "q", ["of"])]), LEFT, "a.id")

    def test_where_around_left(self):
        lone = ("where", LEFT, [("missing", "b.id")])
        self.shows_no_key(BOOK, lone, ["a.town", "b.id"], 2)
        # A partner may have a missing value too, of which there is but one.
        self.least(BOOK, lone, "a.id")
        self.least(BOOK, ("where", LEFT, [("same", "b.id", "b.of")]), "a.id", "b.id", "b.of")
        self.least(BOOK, ("where", LEFT, [("is", "b.id", 4)]), "")

    def test_conditions_in_the_other_part_of_left(self):
        chosen = ("where", B, [("is", "b.id", 4)])
        self.least(BOOK, ("left", A, chosen, [("a.id", "b.of")]), "a.id")
        self.assertEqual(closure(BOOK, ("left", A, chosen, []), []), ["b.id", "b.of"])
        never = ("where", B, [("is", "b.id", 4), ("missing", "b.of")])
        self.assertEqual(closure(BOOK, ("left", A, never, [("a.id", "b.of")]), []), ["b.id", "b.of"])
        # A row without a partner is no partner of itself, so that what settles its id is not there.
        alike = ("where", ("all", "p", "c"), [("same", "c.id", "c.town")])
        lone = ("where", ("left", A, alike, [("a.id", "c.id")]), [("missing", "c.id"), ("same", "a.id", "a.town")])
        self.assertIs(can_answer(BOOK, lone, 1), False)
        missing = ("where", ("all", "p", "c"), [("missing", "c.town")])
        lone = ("where", ("left", A, missing, [("a.id", "c.id")]), [("missing", "c.id"), ("missing", "a.town")])
        self.least(BOOK, lone, "")
        self.assertIs(can_answer(BOOK, lone, 1), True)

    def test_left_in_left(self):
        third = ("left", LEFT, ("all", "q", "c"), [("b.id", "c.of")])
        self.least(BOOK, third, "a.id b.id c.id")
        self.shows_no_key(BOOK, third, ["b.id", "c.id"], 2)
        self.assertEqual(closure(BOOK, third, ["b.id"]), ["b.id", "c.of"])
        self.assertEqual(closure(BOOK, third, ["a.id", "c.id"]), ["a.id", "a.town", "b.of", "c.id"])
        self.assertEqual(closure(BOOK, ("where", third, [("same", "c.id", "c.id")]), ["c.id"]), shown(BOOK, third))

    def test_show(self):
        self.least(BOOK, ("show", JOINED, ["b.id", "a.id"]), "b.id")
        self.least(BOOK, ("show", JOINED, ["b.of", "a.id"]))
        self.least(BOOK, ("show", A, []))
        self.assertIs(doubles(BOOK, ("show", A, [])), True)
        self.shows_no_key(BOOK, ("show", A, []), [], 2)
        self.assertEqual(closure(BOOK, ("show", A, []), []), [])

    def test_both(self):
        self.least(BOOK, ("both", A, C))
        self.shows_no_key(BOOK, ("both", A, C), ["a.id", "a.town"], 1)
        self.shows_no_key(BOOK, ("both", A, B), ["a.id", "a.town"], 2)
        self.assertEqual(closure(BOOK, ("both", A, C), ["a.id"]), ["a.id", "a.town"])
        self.assertEqual(closure(BOOK, ("both", A, B), ["a.id"]), ["a.id"])
        apart = ("both", ("where", A, [("is", "a.town", 1)]), ("where", C, [("is", "c.town", 2)]))
        self.least(BOOK, apart, "a.id")
        self.least(BOOK, ("both", A, NEVER), "a.id")
        self.least(BOOK, ("both", NEVER, A), "a.id")

    def test_once(self):
        self.least(FREE, ("once", A), "a.id a.town")
        self.least(BOOK, ("once", JOINED), "b.id")
        self.least(BOOK, ("once", ("show", JOINED, ["a.id"])), "a.id")
        self.least(BOOK, ("once", ("show", A, [])), "")
        self.least(BOOK, ("once", ("both", A, B)), "a.id a.town")
        # It does not count where a row stood that is there once.
        self.least(BOOK, ("pair", ("once", ("show", A, ["a.town"])), B, []), "a.town b.id")
        self.least(BOOK, ("pair", ("show", A, ["a.town"]), B, []))
        self.least(BOOK, ("show", ("once", A), ["a.town"]))
        self.shows_no_key(BOOK, ("show", ("once", A), ["a.town"]), ["a.town"], 2)

    def test_one_table_several_times(self):
        thrice = ("pair", ("pair", A, ("all", "p", "b"), [("a.town", "b.id")]), C, [("b.town", "c.id")])
        self.least(BOOK, thrice, "a.id")
        self.shows_no_key(BOOK, thrice, ["b.id", "b.town", "c.id", "c.town"], 2)
        free = ("pair", ("pair", A, ("all", "p", "b"), []), C, [])
        self.least(BOOK, free, "a.id b.id c.id")
        self.shows_no_key(BOOK, free, ["a.id", "b.id"], 2)
        self.shows_no_key(BOOK, free, ["a.id", "a.town", "b.id", "b.town", "c.town"], 2)

    def test_six_rows(self):
        tables = [("p", ["x"]), ("q", ["x"]), ("r", ["x"])]
        parts = ("pair", ("all", "p", "a"), ("pair", ("all", "q", "b"), ("all", "r", "c"), []), [])
        self.shows_no_key(Book(tables, []), parts, [], 4)
        self.settles_not(Book(tables, []), parts, ["b.x", "c.x"], "a.x", 4)
        # Rows with unlike ids, each of which needs partners of its own.
        tables = [("p", ["id", "of"]), ("q", ["id", "of"]), ("r", ["id"])]
        parts = ("pair", ("pair", ("all", "p", "a"), ("all", "q", "b"), [("a.of", "b.id")]), ("all", "r", "c"),
                 [("b.of", "c.id")])
        linked = [("settles", "p", ["of"], "id"), ("settles", "q", ["of"], "id")]
        self.settles_not(Book(tables, linked), parts, [], "a.id", 6)
        self.settles_not(Book(tables, []), parts, [], "a.id", 4)
        self.assertEqual(closure(Book(tables, linked), parts, ["c.id"]), shown(Book(tables, linked), parts))

    def test_tables_with_one_row(self):
        single = Book(TABLES, [("key", "p", [])])
        self.least(single, A, "")
        self.least(single, ("pair", A, C, []), "")
        self.least(single, ("pair", A, B, []))
        self.least(single, ("left", A, C, [("a.id", "c.id")]), "")
        self.least(single, ("both", A, C))
        self.least(single, ("once", ("both", A, C)), "")
        self.shows_no_key(single, ("once", ("both", A, ("show", C, ["c.town", "c.id"]))), [], 1)
        self.assertIs(can_answer(single, ("pair", A, C, [("a.id", "c.town")]), 1), True)
        apart = ("pair", ("where", A, [("is", "a.id", 1)]), ("where", C, [("is", "c.id", 2)]), [])
        self.assertIs(can_answer(single, apart, 1), False)
        self.assertIs(can_answer(BOOK, apart, 1), True)
        constant = Book(TABLES, [("settles", "p", [], "town")])
        self.assertEqual(closure(constant, A, []), ["a.town"])
        self.assertEqual(closure(constant, ("both", A, C), []), ["a.town"])
        self.assertIs(can_answer(constant, ("pair", ("where", A, [("is", "a.town", 1)]), none_of("c", "town"), []), 1),
                      False)

    def test_no_answer_at_all(self):
        for question in [NEVER, ("pair", NEVER, B, []), ("once", NEVER), ("both", NEVER, NEVER), ("left", NEVER, B, []),
                         ("show", NEVER, []), ("where", LEFT, [("missing", "a.id"), ("is", "b.of", 2)]),
                         ("where", A, [("is", "a.id", 0), ("missing", "a.id")])]:
            columns = shown(BOOK, question)
            self.assertIs(can_answer(BOOK, question, 1), False)
            self.assertIs(can_answer(BOOK, question, 2), False)
            self.assertIs(doubles(BOOK, question), False)
            self.least(BOOK, question, "")
            self.assertEqual(closure(BOOK, question, []), columns)
            self.assertIsNone(counter(BOOK, question, []))
            self.assertEqual([counter_settles(BOOK, question, [], column) for column in columns], [None] * len(columns))

    def test_can_answer(self):
        self.assertEqual([can_answer(BOOK, A, 1), can_answer(BOOK, A, 2)], [True, True])
        four = ("where", A, [("is", "a.id", 4)])
        self.assertEqual([can_answer(BOOK, four, 1), can_answer(BOOK, four, 2)], [True, False])
        self.assertEqual([can_answer(FREE, four, 1), can_answer(FREE, four, 2)], [True, True])
        twice = ("both", four, four)
        self.assertEqual([can_answer(BOOK, twice, 1), can_answer(BOOK, twice, 2)], [True, True])
        self.assertEqual([can_answer(BOOK, ("once", twice), 1), can_answer(BOOK, ("once", twice), 2)], [True, False])

    def test_can_answer_nine_columns(self):
        tables = [("p", ["x", "y", "z"]), ("q", ["x", "y", "z"])]
        book = Book(tables, [("key", "p", ["x"])])
        nine = ("pair", ("pair", ("all", "p", "a"), ("all", "p", "b"), [("a.x", "b.x")]), ("all", "q", "c"), [])
        self.assertEqual(len(shown(book, nine)), 9)
        self.assertEqual([can_answer(book, nine, 1), can_answer(book, nine, 2)], [True, True])
        never = ("where", nine, [("is", "a.y", 1), ("is", "b.y", 2)])
        self.assertEqual([can_answer(book, never, 1), can_answer(book, never, 2)], [False, False])
        one = ("where", nine, [("is", "a.x", 1)])
        single = book.with_rules([("key", "q", ["y"]), ("settles", "q", [], "y")])
        self.assertEqual([can_answer(single, one, 1), can_answer(single, one, 2)], [True, False])

    def test_the_order_of_least_keys(self):
        wide = [("p", ["d", "c", "b", "a"])]
        rules = [("key", "p", ["a"]), ("key", "p", ["c", "b"]), ("key", "p", ["d", "b"])]
        self.least(Book(wide, rules), A, "a.a", "a.d a.b", "a.c a.b")
        self.least(Book(wide, rules), ("show", A, ["a.b", "a.c", "a.d", "a.a"]), "a.a", "a.b a.c", "a.b a.d")
        self.least(Book(wide, [("key", "p", ["a", "b", "c"]), *rules[1:]]), A, "a.d a.b", "a.c a.b")
        self.assertEqual(closure(Book(wide, rules), A, ["a.b", "a.c"]), ["a.d", "a.c", "a.b", "a.a"])


def none_of(short, column="id"):
    return ("where", ("all", "p", short), [("missing", f"{short}.{column}")])


class AlikeTest(KeysTest):
    def test_alike(self):
        self.assertIs(alike_in_keys(BOOK, A, B), True)
        self.assertIs(alike_in_keys(BOOK, A, A), True)
        self.assertIs(alike_in_keys(BOOK, A, ("show", B, ["b.of", "b.id"])), False)
        self.assertIs(alike_in_keys(BOOK, A, ("once", A)), True)
        self.assertIs(alike_in_keys(FREE, A, ("once", A)), False)
        self.assertIs(alike_in_keys(BOOK, A, NEVER), False)
        self.assertIs(alike_in_keys(BOOK, ("both", A, C), ("both", B, B)), True)

    def test_as_many_columns(self):
        self.assertIs(alike_in_keys(BOOK, A, ("show", A, ["a.id"])), False)
        self.assertIs(alike_in_keys(BOOK, ("show", A, ["a.id"]), A), False)
        self.assertIs(alike_in_keys(BOOK, NEVER, ("once", ("show", A, []))), False)
        self.assertIs(alike_in_keys(BOOK, NEVER, ("where", A, [("is", "a.id", 3)])), True)


class FewestTest(KeysTest):
    def test_fewest_rules(self):
        offered = [("key", "p", ["town"]), ("settles", "p", ["town"], "id"), ("key", "q", ["of"]), ("key", "p", [])]
        self.assertEqual(fewest_rules(BOOK, A, ["a.town"], offered), [[0], [1], [3]])
        self.assertEqual(fewest_rules(FREE, A, ["a.town"], offered), [[0], [3]])
        self.assertEqual(fewest_rules(BOOK, JOINED, ["a.town"], offered), [[0, 2], [1, 2], [2, 3]])
        self.assertEqual(fewest_rules(BOOK, A, ["a.id"], offered), [[]])
        self.assertEqual(fewest_rules(BOOK, A, ["a.id"], []), [[]])
        self.assertEqual(fewest_rules(BOOK, A, ["a.town"], []), [])
        self.assertEqual(fewest_rules(BOOK, ("both", A, C), ["a.id"], offered), [])

    def test_the_order_of_the_sets(self):
        offered = [("settles", "p", [], "id"), ("key", "p", ["id"]), ("settles", "p", ["town"], "id"),
                   ("key", "p", ["town"]), ("key", "p", ["id"])]
        self.assertEqual(fewest_rules(FREE, A, ["a.town"], offered), [[3], [0, 1], [0, 4], [1, 2], [2, 4]])
        self.assertEqual(fewest_rules(FREE, A, [], offered), [[0, 1], [0, 4]])

    def test_a_rule_offered_twice(self):
        self.assertEqual(fewest_rules(FREE, A, ["a.id"], RULES + RULES), [[0], [2]])


class PassedTest(KeysTest):
    def test_lots_in_another_order_and_names_that_stand_twice(self):
        for lot in [["a.id", "b.id"], ["b.id", "a.id"], ["b.id", "a.id", "b.id", "b.id", "a.id"]]:
            self.assertIs(is_key(BOOK, LEFT, lot), True)
            self.assertIsNone(counter(BOOK, LEFT, lot))
            self.assertEqual(closure(BOOK, LEFT, lot), ["a.id", "a.town", "b.id", "b.of"])
            self.assertIs(settles(BOOK, LEFT, lot, "b.of"), True)
            self.assertIsNone(counter_settles(BOOK, LEFT, lot, "b.of"))
            self.assertEqual(fewest_rules(BOOK, LEFT, lot, RULES), [[]])
        for lot in [["a.id", "a.town"], ["a.town", "a.id", "a.id"]]:
            self.shows_no_key(BOOK, LEFT, lot, 3)
            self.settles_not(BOOK, LEFT, lot, "b.id", 3)
            self.assertEqual(fewest_rules(BOOK, LEFT, lot, RULES), [])

    def test_a_column_of_the_lot_is_settled(self):
        self.assertIs(settles(BOOK, LEFT, ["b.of"], "b.of"), True)
        self.assertIsNone(counter_settles(BOOK, LEFT, ["b.of"], "b.of"))

    def test_by_name(self):
        self.assertIs(is_key(columns=["b.id"], question=JOINED, book=BOOK), True)
        self.assertEqual(len(counter(columns=["a.id"], question=JOINED, book=BOOK)), 3)
        self.assertEqual(least_keys(question=JOINED, book=BOOK), [["b.id"]])
        self.assertIs(doubles(question=JOINED, book=BOOK), False)
        self.assertIs(can_answer(number=2, question=JOINED, book=BOOK), True)
        self.assertIs(settles(column="a.town", columns=["a.id"], question=JOINED, book=BOOK), True)
        self.assertEqual(len(counter_settles(column="b.id", columns=["a.id"], question=JOINED, book=BOOK)), 3)
        self.assertEqual(closure(columns=["b.of"], question=JOINED, book=BOOK), ["a.id", "a.town", "b.of"])
        self.assertIs(alike_in_keys(other=B, one=A, book=BOOK), True)
        self.assertEqual(fewest_rules(offered=RULES, columns=["a.id"], question=A, book=FREE), [[0]])

    def calls(self, book, question, columns, offered):
        return [is_key(book, question, columns), counter(book, question, columns), least_keys(book, question),
                doubles(book, question), can_answer(book, question, 1), can_answer(book, question, 2),
                settles(book, question, columns, "a.town"), counter_settles(book, question, columns, "a.town"),
                closure(book, question, columns), alike_in_keys(book, question, question),
                fewest_rules(book, question, columns, offered)]

    def test_nothing_is_changed_and_what_is_returned_is_new(self):
        question = ("where", ("left", A, B, [("a.id", "b.of")]), [("same", "a.town", "b.id")])
        told = [question, ["b.id", "a.id"], [("key", "p", ["town"]), ("key", "q", ["of"])]]
        kept = copy.deepcopy(told)
        tables, rules = copy.deepcopy((BOOK.tables, BOOK.rules))
        found = [self.calls(BOOK, *told), self.calls(BOOK, *told)]
        self.assertEqual(told, kept)
        self.assertEqual((BOOK.tables, BOOK.rules), (tables, rules))
        self.assertEqual(found[0], found[1])
        lists = [id(one) for one in model.lists_in(found)]
        self.assertEqual(len(lists), len(set(lists)))
        self.assertEqual(set(lists) & {id(one) for one in model.lists_in(told)}, set())

    def test_lists_that_are_changed_between_calls(self):
        pairs, conditions, columns = [("a.id", "b.of")], [], ["b.id", "a.id", "a.town"]
        lot, key, offered = ["b.id"], [], []
        question = ("where", ("show", ("pair", A, B, pairs), columns), conditions)
        self.assertEqual(least_keys(BOOK, question), [["b.id"]])
        self.assertEqual(fewest_rules(BOOK, question, lot, offered), [[]])
        pairs.clear()
        self.assertEqual(least_keys(BOOK, question), [["b.id", "a.id"]])
        self.assertEqual(len(counter(BOOK, question, lot)), 3)
        self.assertEqual(fewest_rules(BOOK, question, lot, offered), [])
        offered.append(("key", "p", key))
        self.assertEqual(fewest_rules(BOOK, question, lot, offered), [[0]])
        key.append("town")
        self.assertEqual(fewest_rules(BOOK, question, lot, offered), [])
        lot.append("a.id")
        self.assertEqual(fewest_rules(BOOK, question, lot, offered), [[]])
        conditions.append(("is", "a.id", 1))
        self.assertEqual(least_keys(BOOK, question), [["b.id"]])
        columns.remove("b.id")
        self.assertEqual(least_keys(BOOK, question), [])

    def test_returned_lists_that_are_changed(self):
        for _ in range(2):
            for found in self.calls(BOOK, ("show", LEFT, ["a.town", "b.id"]), ["b.id"], [("key", "p", ["town"])]):
                for one in model.lists_in(found):
                    one.append("more")
            self.assertEqual(closure(BOOK, LEFT, ["a.id"]), ["a.id", "a.town", "b.of"])
            self.assertEqual(fewest_rules(BOOK, A, ["a.town"], [("key", "p", ["town"])]), [[0]])


class ErrorTest(KeysTest):
    def refused_of_lots(self, error_class, value, question, columns):
        """All functions that take a lot raise the same."""
        for call in [is_key, counter, closure]:
            self.refused(error_class, value, call, BOOK, question, columns)
        for call in [settles, counter_settles]:
            self.refused(error_class, value, call, BOOK, question, columns, "a.nope")
            self.refused(error_class, value, call, BOOK, question, columns, "b.id")
        for offered in [[], [("key", "nope", [])], [()]]:
            self.refused(error_class, value, fewest_rules, BOOK, question, columns, offered)

    def refused_of_question(self, error_class, value, question):
        for call in [least_keys, doubles]:
            self.refused(error_class, value, call, BOOK, question)
        for number in [1, 2]:
            self.refused(error_class, value, can_answer, BOOK, question, number)
        for columns in [[], ["a.id"], ["nope", "a.id"]]:
            self.refused_of_lots(error_class, value, question, columns)
        self.refused(error_class, value, alike_in_keys, BOOK, question, A)
        self.refused(error_class, value, alike_in_keys, BOOK, A, question)

    def test_errors_of_the_question(self):
        self.refused_of_question(InvalidQuestion, (), ())
        self.refused_of_question(InvalidQuestion, ("every", "p"), ("once", ("every", "p")))
        self.refused_of_question(InvalidName, "A", ("pair", A, ("all", "q", "A"), [("x", "y")]))
        self.refused_of_question(UnknownTable, "r", ("show", ("all", "r", "a"), ["nope"]))
        self.refused_of_question(UnknownColumn, "b.id", ("where", A, [("same", "a.id", "b.id")]))
        self.refused_of_question(DoubleName, "a.town", ("show", A, ["a.id", "a.town", "a.town", "a.id"]))
        unsound = ("once", ("where", LEFT, [("missing", "b.id")]))
        self.refused_of_question(InvalidQuestion, unsound, unsound)
        self.refused_of_question(InvalidQuestion, unsound, ("show", unsound, ["nope"]))
        unsound = ("both", A, ("show", B, ["b.id"]))
        self.refused_of_question(InvalidQuestion, unsound, unsound)

    def test_one_ahead_of_the_other(self):
        self.refused(UnknownTable, "r", alike_in_keys, BOOK, ("all", "r", "a"), ("all", "q", "B"))
        self.refused(InvalidName, "B", alike_in_keys, BOOK, ("all", "q", "B"), ("all", "r", "a"))
        self.refused(UnknownTable, "r", alike_in_keys, BOOK, ("show", A, []), ("all", "r", "a"))

    def test_columns_that_are_not_shown(self):
        self.refused_of_lots(UnknownColumn, "nope", JOINED, ["nope"])
        self.refused_of_lots(UnknownColumn, "id", JOINED, ["a.id", "b.id", "id", "a.no"])
        self.refused_of_lots(UnknownColumn, "a.no", JOINED, ["a.no", "id", "a.id"])
        self.refused_of_lots(UnknownColumn, "a.id", ("show", JOINED, ["b.id"]), ["b.id", "a.id", "a.id", "no"])
        self.refused_of_lots(UnknownColumn, "c.id", ("both", A, C), ["a.id", "c.id"])
        self.refused_of_lots(UnknownColumn, "", NEVER, [""])

    def test_a_settled_column_that_is_not_shown(self):
        for call in [settles, counter_settles]:
            self.refused(UnknownColumn, "c.id", call, BOOK, JOINED, ["a.id", "a.id"], "c.id")
            self.refused(UnknownColumn, "~ {", call, BOOK, NEVER, [], "~ {")

    def test_errors_of_offered_rules(self):
        for rule, error_class, value in [
            ((), InvalidRule, ()),
            (("keys", "p", []), InvalidRule, ("keys", "p", [])),
            (("settles", "nope", ["no"]), InvalidRule, ("settles", "nope", ["no"])),
            (("key", "nope", ["no"]), UnknownTable, "nope"),
            (("settles", "p", ["id", "of"], "no"), UnknownColumn, "of"),
            (("settles", "p", ["id"], "of"), UnknownColumn, "of"),
            (("key", "q", ["a.id"]), UnknownColumn, "a.id"),
        ]:
            # Rules that are wrong are found whether or not the columns are a key without them.
            for columns in [[], ["a.town"], ["a.id"]]:
                self.refused(error_class, value, fewest_rules, BOOK, A, columns, [rule])
                self.refused(error_class, value, fewest_rules, BOOK, A, columns, [*RULES, rule, ("none",)])
                self.refused(UnknownColumn, "b", fewest_rules, BOOK, A, [*columns, "b"], [rule])
        self.refused(UnknownTable, "P", fewest_rules, BOOK, NEVER, [], [("key", "P", []), ()])

    def test_drawn_errors(self):
        draw = random.Random(81)
        seen = set()
        for _ in range(400):
            question = model.draw_question(draw, TABLES, 3, 4, list("abcdefgh"))
            question = model.spoilt(draw, question)
            _, error = model.look(TABLES, question)
            if error is not None:
                seen.add(error[0])
                error_class = {one.__name__: one for one in KeyTellError.__subclasses__()}[error[0]]
                self.refused_of_question(error_class, error[1], question)
        self.assertGreater(len(seen), 4)


if __name__ == "__main__":
    unittest.main()
