"""Points [2] to [4]: books."""

import copy
import random
import unittest

import model
from keysthrough.books import Book
from keysthrough.errors import DoubleName, InvalidName, InvalidRule, KeyTellError, UnknownColumn, UnknownTable
from keysthrough.stores import Store

NO_NAMES = [
    "", " ", "~", "A", "Z", "aB", "abcdefgH", "abcdefghi", "abcdefghijklmnopqrstuvwxyz", "a b", " a", "a ", "a1", "1",
    "a.b", ".", "a_b", "_", "`", "{", "a`", "a{", "@", "[", "a-", "a,b", "(a)", "None", "a;", "a=b", ">", "\"a\"",
]
NAMES = ["a", "z", "az", "abcdefgh", "zzzzzzzz", "key", "settles", "all", "none", "true", "if"]


def tables():
    return [("p", ["id", "town"]), ("q", ["id", "of", "at"]), ("abcdefgh", ["z"])]


def rules():
    return [("key", "p", ["id"]), ("settles", "q", ["of", "at"], "id"), ("key", "q", []), ("settles", "p", [], "town")]


class BookTest(unittest.TestCase):
    def refused(self, error_class, value, made, *told, **named):
        """Check that a call raises just this error, and changes nothing that it is passed."""
        kept = copy.deepcopy((told, named))
        with self.assertRaises(KeyTellError) as held:
            made(*told, **named)
        self.assertIs(type(held.exception), error_class)
        self.assertEqual(held.exception.value, value)
        self.assertIs(type(held.exception.value), type(value))
        self.assertEqual((told, named), kept)
        return held.exception.value

    def all_new(self, value, *others):
        """Check that every list in a value stands in one place alone, and nowhere in the others."""
        found = [id(one) for one in model.lists_in(value)]
        self.assertEqual(len(found), len(set(found)))
        for other in others:
            self.assertEqual(set(found) & {id(one) for one in model.lists_in(other)}, set())


class HeldTest(BookTest):
    def test_tables_and_rules(self):
        book = Book(tables(), rules())
        self.assertEqual(book.tables, tables())
        self.assertEqual(book.rules, rules())
        self.assertIs(type(book.tables), list)
        self.assertIs(type(book.rules), list)
        self.assertEqual([type(one) for one in book.tables + book.rules], [tuple] * 7)
        self.assertEqual([type(columns) for _, columns in book.tables], [list] * 3)
        self.assertEqual([type(rule[2]) for rule in book.rules], [list] * 4)

    def test_by_name(self):
        self.assertEqual(Book(rules=rules(), tables=tables()), Book(tables(), rules()))
        self.assertEqual(Book(tables(), rules=[]).rules, [])

    def test_an_empty_book(self):
        book = Book([], [])
        self.assertEqual([book.tables, book.rules, len(book)], [[], [], 0])
        self.refused(UnknownTable, "p", lambda: book["p"])

    def test_columns_of_a_table(self):
        book = Book(tables(), rules())
        self.assertEqual([book["p"], book["q"], book["abcdefgh"]], [["id", "town"], ["id", "of", "at"], ["z"]])
        self.assertIs(type(book["p"]), list)

    def test_columns_of_an_unknown_table(self):
        book = Book(tables(), rules())
        for name in ["r", "id", "P", "", "pq", "abcdefg", "abcdefghi", "p ", "key"]:
            self.refused(UnknownTable, name, lambda: book[name])

    def test_len(self):
        for many in range(4):
            self.assertEqual(len(Book(tables()[:many], [])), many)

    def test_what_is_passed_is_not_changed(self):
        told = [tables(), rules()]
        book = Book(*told)
        book.with_rules(told[1])
        book.without(0)
        self.assertEqual(told, [tables(), rules()])

    def test_lists_that_are_changed_behind(self):
        told_tables, told_rules = tables(), rules()
        book = Book(told_tables, told_rules)
        told_tables[0][1].append("more")
        told_tables[1][1].clear()
        told_tables.pop()
        told_rules[0][2].append("town")
        told_rules[1][2][0] = "id"
        told_rules.pop(0)
        self.assertEqual([book.tables, book.rules, len(book)], [tables(), rules(), 3])
        self.assertEqual([book["p"], book["q"]], [["id", "town"], ["id", "of", "at"]])

    def test_returned_lists_that_are_changed(self):
        book = Book(tables(), rules())
        for returned in (book.tables, book.rules, [book["p"]], [book["q"]]):
            for one in model.lists_in(returned):
                one.clear()
        self.assertEqual([book.tables, book.rules, len(book)], [tables(), rules(), 3])
        self.assertEqual([book["p"], book["q"]], [["id", "town"], ["id", "of", "at"]])

    def test_returned_lists_are_new(self):
        told_tables, told_rules = tables(), rules()
        book = Book(told_tables, told_rules)
        returned = [book.tables, book.tables, book.rules, book.rules, book["p"], book["p"]]
        self.all_new(returned, told_tables, told_rules)

    def test_one_list_in_several_places(self):
        columns = ["id", "of"]
        told_tables = [("p", columns), ("q", columns)]
        rule = ("key", "p", columns)
        told_rules = [rule, ("settles", "q", columns, "of"), rule]
        book = Book(told_tables, told_rules)
        self.assertEqual([book.tables, book.rules], [told_tables, told_rules])
        self.all_new([book.tables, book.rules, book["p"], book["q"]], [columns])
        self.all_new([book.with_rules(told_rules).rules], [columns])

    def test_great_books(self):
        words = ["id", "of", "town", "a", "b", "c", "name", "abcdefgh"]
        great = [(name, list(words)) for name in ["p", "q", "r", "s", "t", "abcdefgh"]]
        many = [("settles", "r", words[:place], "town") for place in range(8)] + [("key", "t", ["a"])] * 12
        book = Book(great, many)
        self.assertEqual([book.tables, book.rules, len(book)], [great, many, 6])


class TableErrorTest(BookTest):
    def test_names(self):
        for name in NAMES:
            self.assertEqual(Book([(name, [name])], [("key", name, [name])])[name], [name])

    def test_invalid_names(self):
        for name in NO_NAMES:
            self.refused(InvalidName, name, Book, [(name, ["id"])], [])
            self.refused(InvalidName, name, Book, [("p", [name])], [])
            self.refused(InvalidName, name, Book, [("p", ["id"]), (name, ["id"])], [])
            self.refused(InvalidName, name, Book, [("p", ["id"]), ("q", ["id", "of", name])], [])

    def test_double_names(self):
        self.refused(DoubleName, "p", Book, [("p", ["id"]), ("p", ["of"])], [])
        self.refused(DoubleName, "p", Book, [("p", ["id"]), ("q", ["id"]), ("p", ["of"])], [])
        self.refused(DoubleName, "id", Book, [("p", ["id", "id"])], [])
        self.refused(DoubleName, "of", Book, [("p", ["id"]), ("q", ["of", "id", "of"])], [])

    def test_one_name_in_several_tables(self):
        told = [("p", ["p", "q", "id"]), ("q", ["id", "q", "p"])]
        self.assertEqual(Book(told, []).tables, told)

    def test_order_within_a_table(self):
        self.refused(InvalidName, "P", Book, [("P", ["A", "b", "b"])], [])
        self.refused(DoubleName, "p", Book, [("p", ["a"]), ("p", ["A"])], [])
        self.refused(DoubleName, "p", Book, [("p", ["a"]), ("p", ["a", "a"])], [])
        self.refused(InvalidName, "B", Book, [("p", ["a", "B", "a"])], [])
        self.refused(DoubleName, "a", Book, [("p", ["a", "a", "B"])], [])
        self.refused(InvalidName, "B", Book, [("p", ["a", "B", "C"])], [])
        self.refused(InvalidName, "B", Book, [("p", ["B", "B"])], [])
        self.refused(DoubleName, "b", Book, [("p", ["a", "b", "b", "a"])], [])

    def test_order_of_tables(self):
        self.refused(InvalidName, "A", Book, [("p", ["A"]), ("Q", ["id"])], [])
        self.refused(DoubleName, "a", Book, [("p", ["a", "a"]), ("Q", ["id"])], [])
        self.refused(DoubleName, "a", Book, [("p", ["a", "a"]), ("p", ["id"])], [])
        self.refused(InvalidName, "Q", Book, [("p", ["a"]), ("Q", ["id"]), ("p", ["a", "a"])], [])
        self.refused(DoubleName, "p", Book, [("p", ["a"]), ("p", ["id"]), ("Q", ["id"])], [])

    def test_tables_ahead_of_rules(self):
        bad = [(), ("key", "nope", ["nope"])]
        self.refused(InvalidName, "A", Book, [("p", ["id"]), ("q", ["A"])], bad)
        self.refused(DoubleName, "q", Book, [("q", ["id"]), ("q", ["a"])], bad)


class RuleErrorTest(BookTest):
    def test_rules_that_are_taken(self):
        for rule in [
            ("key", "p", []), ("key", "p", ["id"]), ("key", "p", ["town", "id"]), ("key", "p", ["id", "id"]),
            ("settles", "p", [], "id"), ("settles", "p", ["id"], "id"), ("settles", "p", ["id", "id"], "town"),
            ("key", "abcdefgh", ["z"]), ("settles", "q", ["at", "id", "of"], "of"),
        ]:
            self.assertEqual(Book(tables(), [rule]).rules, [rule])
            self.assertEqual(Book(tables(), [rule, rule]).rules, [rule, rule])

    def test_invalid_rules(self):
        for rule in [
            (), ("key",), ("settles",), ("key", "p"), ("settles", "p"), ("settles", "p", ["id"]),
            ("key", "p", ["id"], "id"), ("settles", "p", ["id"], "town", "id"), ("key", "p", ["id"], ["id"]),
            ("", "p", ["id"]), ("Key", "p", ["id"]), ("keys", "p", ["id"]), ("ke", "p", ["id"]), ("p", "key", ["id"]),
            ("settle", "p", ["id"], "town"), ("one ~ {", "p", ["id"], "town"), ("nope",),
        ]:
            self.refused(InvalidRule, rule, Book, tables(), [rule])
            self.refused(InvalidRule, rule, Book, tables(), [*rules(), rule, ("key", "nope", [])])
            self.refused(InvalidRule, rule, Book([("p", ["id", "town"])], []).with_rules, [rule])

    def test_an_invalid_rule_in_new_lists(self):
        columns = ["id"]
        rule = ("key", "p", columns, columns, [columns])
        told = [rule]
        value = self.refused(InvalidRule, rule, Book, tables(), told)
        self.all_new(value, told)
        columns.append("of")
        self.assertEqual(value, ("key", "p", ["id"], ["id"], [["id"]]))
        other = self.refused(InvalidRule, rule, Book(tables(), []).with_rules, more=told)
        self.all_new(other, told, value)

    def test_unknown_tables(self):
        for name in ["r", "", "P", "id", "abcdefghi", "key", "one ~ {"]:
            self.refused(UnknownTable, name, Book, tables(), [("key", name, ["id"])])
            self.refused(UnknownTable, name, Book, tables(), [("settles", name, ["nope"], "none")])
            self.refused(UnknownTable, name, Book, tables(), [*rules(), ("key", name, [])])

    def test_unknown_columns(self):
        for name in ["no", "", "Id", "of", "z", "p", "p.id", "i", "idid"]:
            self.refused(UnknownColumn, name, Book, tables(), [("key", "p", [name])])
            self.refused(UnknownColumn, name, Book, tables(), [("key", "p", ["id", name, "none"])])
            self.refused(UnknownColumn, name, Book, tables(), [("settles", "p", [name], "id")])
            self.refused(UnknownColumn, name, Book, tables(), [("settles", "p", ["id"], name)])
            self.refused(UnknownColumn, name, Book, tables(), [("settles", "p", [], name)])

    def test_columns_ahead_of_the_settled_one(self):
        self.refused(UnknownColumn, "y", Book, tables(), [("settles", "p", ["id", "y"], "x")])
        self.refused(UnknownColumn, "x", Book, tables(), [("settles", "p", ["x", "y"], "id")])

    def test_order_of_rules(self):
        ways = [
            (InvalidRule, ("key", "no", ["x"], "y"), ("key", "no", ["x"], "y")),
            (UnknownTable, "no", ("key", "no", ["x"])),
            (UnknownColumn, "x", ("settles", "q", ["x"], "y")),
        ]
        for error_class, value, rule in ways:
            for _, _, later in ways:
                self.refused(error_class, value, Book, tables(), [rules()[0], rule, later])
                self.refused(error_class, value, Book(tables(), rules()).with_rules, [rules()[0], rule, later])


class ChangedBookTest(BookTest):
    def test_with_rules(self):
        book = Book(tables(), rules()[:2])
        more = book.with_rules(rules()[2:])
        self.assertIs(type(more), Book)
        self.assertEqual([more.tables, more.rules], [tables(), rules()])
        self.assertEqual([book.tables, book.rules], [tables(), rules()[:2]])
        self.assertEqual(more, Book(tables(), rules()))
        self.assertEqual(book.with_rules(more=[rules()[0]]).rules, [*rules()[:2], rules()[0]])
        self.assertEqual(book.with_rules([]), book)

    def test_with_rules_that_are_changed_behind(self):
        book = Book(tables(), rules()[:2])
        told = rules()[2:]
        more = book.with_rules(told)
        told[0][2].append("of")
        told.pop()
        for one in model.lists_in(book.rules) + model.lists_in(more.tables):
            one.clear()
        self.assertEqual([more.tables, more.rules], [tables(), rules()])
        self.all_new([book.rules, more.rules, book.tables, more.tables], told)

    def test_with_rules_refused(self):
        book = Book(tables(), rules())
        self.refused(UnknownTable, "r", book.with_rules, [rules()[0], ("key", "r", ["x"]), ()])
        self.refused(UnknownColumn, "x", book.with_rules, more=[("key", "p", ["x"]), ("key", "r", [])])
        self.assertEqual([book.tables, book.rules], [tables(), rules()])

    def test_without(self):
        book = Book(tables(), rules())
        for index in range(4):
            less = book.without(index)
            self.assertIs(type(less), Book)
            self.assertEqual([less.tables, less.rules], [tables(), rules()[:index] + rules()[index + 1:]])
            self.assertEqual(book.without(index=index), less)
        self.assertEqual([book.tables, book.rules], [tables(), rules()])
        self.all_new([book.rules, book.without(0).rules, book.tables, book.without(0).tables])

    def test_without_one_of_two_equal_rules(self):
        book = Book(tables(), [rules()[0], rules()[1], rules()[0]])
        self.assertEqual(book.without(2).rules, rules()[:2])
        self.assertEqual(book.without(0).rules, [rules()[1], rules()[0]])

    def test_without_a_rule_that_is_none(self):
        book = Book(tables(), rules())
        for index in [-1, -4, -5, 4, 5, 999, -999]:
            self.refused(InvalidRule, index, book.without, index)
            self.refused(InvalidRule, index, book.without, index=index)
        for index in [0, -1, 1]:
            self.refused(InvalidRule, index, Book(tables(), []).without, index)
        self.assertEqual(book.rules, rules())

    def test_without_all(self):
        book = Book(tables(), rules())
        while book.rules:
            book = book.without(len(book.rules) - 1)
        self.assertEqual(book, Book(tables(), []))
        self.assertEqual(book.with_rules(rules()), Book(tables(), rules()))


class EqualTest(BookTest):
    def differ(self, one, other):
        self.assertFalse(one == other)
        self.assertFalse(other == one)
        self.assertTrue(one != other)
        self.assertTrue(other != one)

    def test_equal(self):
        one, other = Book(tables(), rules()), Book(tables(), rules())
        self.assertTrue(one == other)
        self.assertFalse(one != other)
        self.assertTrue(one == one)
        self.assertTrue(Book([], []) == Book([], []))
        self.assertTrue(one.without(3).with_rules(rules()[3:]) == other)

    def test_books_that_differ_in_one_thing(self):
        book = Book(tables(), rules())
        extra = [*tables(), ("extra", ["id"])]
        self.differ(book, Book(extra, rules()))
        self.differ(book, book.without(0))
        self.differ(book, book.without(3))
        self.differ(book, book.with_rules(rules()[:1]))
        self.differ(book, book.with_rules(rules()[3:]))
        self.differ(Book([], []), Book(tables(), []))
        self.differ(Book(tables()[:1], []), Book(tables()[1:2], []))
        self.differ(Book([("p", ["id"])], []), Book([("q", ["id"])], []))
        self.differ(Book([("p", ["id"])], []), Book([("p", ["of"])], []))
        self.differ(Book([("p", ["id"])], []), Book([("p", ["id", "of"])], []))
        self.differ(Book([("p", ["id", "of"])], []), Book([("p", ["of", "id"])], []))

    def test_the_order_counts(self):
        self.differ(Book(tables(), rules()), Book(tables()[::-1], rules()))
        self.differ(Book(tables(), rules()), Book(tables(), rules()[::-1]))
        self.differ(Book(tables(), [("key", "p", ["id", "town"])]), Book(tables(), [("key", "p", ["town", "id"])]))

    def test_rules_that_differ_in_one_thing(self):
        told = [
            ("key", "q", ["id"]), ("key", "p", ["id"]), ("key", "q", ["of"]), ("key", "q", []),
            ("key", "q", ["id", "id"]), ("settles", "q", ["id"], "of"), ("settles", "p", ["id"], "id"),
            ("settles", "q", ["id"], "id"), ("settles", "q", ["of"], "of"),
            ("settles", "q", [], "of"), ("settles", "q", ["id", "of"], "of"),
        ]
        for place, one in enumerate(told):
            for other in told[:place]:
                self.differ(Book(tables(), [one]), Book(tables(), [other]))

    def test_other_things(self):
        book = Book(tables(), rules())
        for thing in [None, 0, 3, "", "p", (), [], tables(), rules(), (tables(), rules()), {}, Store(book), Book, True]:
            self.differ(book, thing)
        for thing in [None, 0, "", (), [], False, Store(Book([], []))]:
            self.differ(Book([], []), thing)


class DrawnBookTest(BookTest):
    def test_drawn_books(self):
        draw = random.Random(1)
        for _ in range(150):
            drawn = model.draw_tables(draw, 6, 8)
            told = [model.draw_rule(draw, drawn) for _ in range(draw.randint(0, 20))]
            book = Book(drawn, told)
            self.assertEqual([book.tables, book.rules, len(book)], [drawn, told, len(drawn)])
            self.assertEqual([book[name] for name, _ in drawn], [columns for _, columns in drawn])
            cut = draw.randint(0, len(told))
            self.assertEqual(Book(drawn, told[:cut]).with_rules(told[cut:]), book)
            if cut < len(told):
                self.assertEqual(book.without(cut).rules, told[:cut] + told[cut + 1:])


if __name__ == "__main__":
    unittest.main()
