"""Points [2] to [4]: stores, their rows, and what is put, taken and taken back."""

import copy
import random
import unittest

import model
from keysthrough.books import Book
from keysthrough.errors import BrokenRule, InvalidRow, KeyTellError, NoSuchRow, NothingToUndo, UnknownTable
from keysthrough.stores import Store, filled

TABLES = [("p", ["id", "town"]), ("q", ["id", "of", "at"]), ("one", ["x"])]


def book(*rules):
    return Book(TABLES, list(rules))


def looks(store, tables=TABLES):
    """All that a store shows of itself, without what it could take back."""
    return [len(store), [store.rows(name) for name, _ in tables], [store(("all", name, "a")) for name, _ in tables]]


class StoreTest(unittest.TestCase):
    def refused(self, error_class, value, call, *told, **named):
        kept = copy.deepcopy((told, named))
        with self.assertRaises(KeyTellError) as held:
            call(*told, **named)
        self.assertIs(type(held.exception), error_class)
        self.assertEqual(held.exception.value, value)
        self.assertIs(type(held.exception.value), type(value))
        self.assertEqual((told, named), kept)

    def unchanged(self, store, error_class, value, call, *told, **named):
        before = looks(store)
        self.refused(error_class, value, call, *told, **named)
        self.assertEqual(looks(store), before)


class PutTest(StoreTest):
    def test_a_new_store(self):
        for store in [Store(book()), Store(book=book()), filled(book(), []), filled(rows=[], book=book())]:
            self.assertIs(type(store), Store)
            self.assertEqual(looks(store), [0, [[], [], []], [[], [], []]])
        self.assertEqual(len(Store(Book([], []))), 0)

    def test_put(self):
        store = Store(book())
        self.assertEqual(store.put("p", (1, 2)), 0)
        self.assertEqual(store.put("q", (1, None, -999)), 0)
        self.assertEqual(store.put(table="p", row=(1, 2)), 1)
        self.assertEqual(store.put("one", (None,)), 0)
        self.assertEqual(store.put(row=(0, 999), table="p"), 2)
        self.assertEqual(store.rows("p"), [(1, 2), (1, 2), (0, 999)])
        self.assertEqual(store.rows(table="q"), [(1, None, -999)])
        self.assertEqual(store.rows("one"), [(None,)])
        self.assertEqual(len(store), 5)
        self.assertEqual([type(row) for row in store.rows("p")], [tuple] * 3)

    def test_unknown_tables(self):
        store = filled(book(), [("p", (1, 2))])
        for name in ["r", "", "P", "id", "pq", "abcdefghi", "a.id"]:
            self.unchanged(store, UnknownTable, name, store.put, name, (1, 2))
            self.unchanged(store, UnknownTable, name, store.put, name, ())
            self.unchanged(store, UnknownTable, name, store.take, name, 0)
            self.unchanged(store, UnknownTable, name, store.take, name, 7)
            self.unchanged(store, UnknownTable, name, store.rows, name)
            self.refused(UnknownTable, name, filled, book(), [(name, (1,))])
        store.undo()
        self.refused(NothingToUndo, 0, store.undo)

    def test_rows_of_another_length(self):
        store = filled(book(("key", "p", [])), [("p", (1, 2))])
        for row in [(), (1,), (1, 2, 3), (None, None, None, None)]:
            self.unchanged(store, InvalidRow, row, store.put, "p", row)
            self.refused(InvalidRow, row, filled, book(("key", "p", [])), [("p", (1, 2)), ("p", row)])
        self.unchanged(store, InvalidRow, (1, 2), store.put, "q", (1, 2))
        self.unchanged(store, InvalidRow, (), store.put, "one", ())
        self.unchanged(store, BrokenRule, 0, store.put, "p", (1, 2))

    def test_key(self):
        store = filled(book(("key", "p", ["id"])), [("p", (1, 7)), ("p", (None, 7)), ("q", (1, 1, 1))])
        self.unchanged(store, BrokenRule, 0, store.put, "p", (1, 8))
        self.unchanged(store, BrokenRule, 0, store.put, "p", (1, 7))
        self.unchanged(store, BrokenRule, 0, store.put, "p", (None, None))
        self.assertEqual(store.put("p", (2, 7)), 2)
        self.assertEqual(store.put("q", (1, 1, 1)), 1)

    def test_key_of_several_columns(self):
        store = filled(book(("key", "q", ["at", "id"])), [("q", (1, 2, 3)), ("q", (None, 2, 4))])
        for row in [(1, 5, 3), (1, None, 3), (1, 2, 3), (None, 0, 4)]:
            self.unchanged(store, BrokenRule, 0, store.put, "q", row)
        for row in [(1, 2, 4), (2, 2, 3), (None, 2, 3), (3, 2, 1), (4, 2, None), (None, 2, None)]:
            store.put("q", row)
        self.unchanged(store, BrokenRule, 0, store.put, "q", (None, 7, None))

    def test_key_without_columns(self):
        store = Store(book(("key", "p", [])))
        self.assertEqual([store.put("p", (1, 2)), store.put("q", (1, 2, 3)), store.put("q", (1, 2, 3))], [0, 0, 1])
        self.unchanged(store, BrokenRule, 0, store.put, "p", (3, 4))

    def test_settles(self):
        store = filled(book(("settles", "q", ["of"], "at")), [("q", (1, 1, 5)), ("q", (2, None, None))])
        for row in [(9, 1, 6), (1, 1, None), (2, None, 5), (3, None, 0)]:
            self.unchanged(store, BrokenRule, 0, store.put, "q", row)
        for row in [(1, 1, 5), (7, 1, 5), (8, 2, 6), (9, None, None), (9, 3, None)]:
            store.put("q", row)
        self.unchanged(store, BrokenRule, 0, store.put, "q", (9, 3, 3))
        self.assertEqual(len(store), 7)

    def test_settles_without_columns(self):
        store = filled(book(("settles", "q", [], "of")), [("q", (1, 2, 3))])
        self.unchanged(store, BrokenRule, 0, store.put, "q", (1, 3, 3))
        self.unchanged(store, BrokenRule, 0, store.put, "q", (1, None, 3))
        self.assertEqual(store.put("q", (4, 2, None)), 1)

    def test_settles_by_several_columns(self):
        store = filled(book(("settles", "q", ["of", "id"], "at")), [("q", (1, 2, 3))])
        self.unchanged(store, BrokenRule, 0, store.put, "q", (1, 2, 4))
        for row in [(2, 1, 4), (1, 1, 4), (2, 2, 4), (1, None, 4)]:
            store.put("q", row)

    def test_columns_told_twice_and_settled_by_themselves(self):
        store = filled(book(("key", "p", ["id", "id"]), ("settles", "one", ["x", "x"], "x")), [("p", (1, 2))])
        self.unchanged(store, BrokenRule, 0, store.put, "p", (1, 3))
        self.assertEqual([store.put("one", (1,)), store.put("one", (2,)), store.put("one", (1,))], [0, 1, 2])

    def test_the_first_rule_that_would_not_hold(self):
        rules = [
            ("key", "q", ["id"]), ("settles", "p", ["town"], "id"), ("key", "p", ["id", "town"]), ("key", "p", ["id"]),
            ("settles", "q", ["of"], "at"), ("key", "q", ["id", "of"]), ("key", "q", ["at"]),
        ]
        store = filled(book(*rules), [("p", (1, 2)), ("q", (1, 2, 3))])
        for index, table, row in [
            (1, "p", (2, 2)), (2, "p", (1, 2)), (3, "p", (1, 3)), (0, "q", (1, 2, 3)), (0, "q", (1, 2, 4)),
            (4, "q", (2, 2, 4)), (6, "q", (2, 2, 3)), (6, "q", (2, 9, 3)), (0, "q", (1, 9, 9)),
        ]:
            self.unchanged(store, BrokenRule, index, store.put, table, row)
            self.refused(BrokenRule, index, filled, book(*rules), [("p", (1, 2)), ("q", (1, 2, 3)), (table, row)])
        self.assertEqual([store.put("p", (7, 8)), store.put("q", (7, 8, 9))], [1, 1])

    def test_a_rule_is_broken_by_any_row(self):
        store = filled(book(("key", "p", ["id"])), [("p", (number, number % 3)) for number in range(8)])
        for number in range(8):
            self.unchanged(store, BrokenRule, 0, store.put, "p", (number, 5))

    def test_rows_are_given_anew(self):
        told = [("p", (1, 2)), ("q", (3, 4, 5))]
        store = filled(book(), told)
        told.clear()
        store.rows("p").append((9, 9))
        store.rows("q").clear()
        store(("all", "p", "a")).clear()
        store(("where", ("all", "q", "a"), [])).append((0, 0, 0))
        self.assertEqual(looks(store), [2, [[(1, 2)], [(3, 4, 5)], []]] + looks(store)[2:])
        self.assertIsNot(store.rows("p"), store.rows("p"))

    def test_filled(self):
        told = [("q", (1, 2, 3)), ("p", (1, 2)), ("q", (0, None, 3)), ("q", (1, 2, 3))]
        kept = list(told)
        store = filled(book=book(), rows=told)
        self.assertEqual(told, kept)
        self.assertEqual([store.rows("p"), store.rows("q")], [[(1, 2)], [(1, 2, 3), (0, None, 3), (1, 2, 3)]])
        self.assertEqual(len(store), 4)

    def test_filled_stops_at_the_first_error(self):
        here = book(("key", "p", ["id"]))
        self.refused(InvalidRow, (1,), filled, here, [("p", (1,)), ("no", (1, 2)), ("p", (1, 2)), ("p", (1, 3))])
        self.refused(UnknownTable, "no", filled, here, [("p", (1, 2)), ("no", (1,)), ("p", (1, 3))])
        self.refused(BrokenRule, 0, filled, here, [("p", (1, 2)), ("p", (1, 3)), ("no", (1,)), ("p", ())])


class TakeTest(StoreTest):
    def test_take(self):
        store = filled(book(), [("p", (number, None)) for number in range(5)] + [("q", (1, 2, 3))])
        self.assertEqual(store.take("p", 1), (1, None))
        self.assertEqual(store.take(table="p", index=3), (4, None))
        self.assertEqual(store.take(index=0, table="p"), (0, None))
        self.assertEqual([store.rows("p"), store.rows("q"), len(store)], [[(2, None), (3, None)], [(1, 2, 3)], 3])
        taken = [store.take("p", 0), store.take("p", 0), store.take("q", 0)]
        self.assertEqual(taken, [(2, None), (3, None), (1, 2, 3)])
        self.assertEqual(looks(store), [0, [[], [], []], [[], [], []]])

    def test_no_such_row(self):
        store = filled(book(), [("p", (1, 2)), ("p", (3, 4)), ("q", (1, 2, 3))])
        for table, index in [("p", 2), ("p", -1), ("p", -2), ("p", 999), ("q", 1), ("q", -1), ("one", 0), ("one", -1)]:
            self.unchanged(store, NoSuchRow, index, store.take, table, index)
        for _ in range(3):
            store.undo()
        self.refused(NothingToUndo, 0, store.undo)
        self.unchanged(store, NoSuchRow, 0, store.take, "p", 0)

    def test_one_of_two_equal_rows(self):
        store = filled(book(), [("p", (1, 2)), ("p", (0, 0)), ("p", (1, 2))])
        store.take("p", 2)
        self.assertEqual(store.rows("p"), [(1, 2), (0, 0)])
        store.undo()
        store.take("p", 0)
        self.assertEqual(store.rows("p"), [(0, 0), (1, 2)])

    def test_what_is_taken_breaks_no_rule_any_longer(self):
        store = filled(book(("key", "p", ["id"])), [("p", (1, 2)), ("p", (2, 2))])
        self.unchanged(store, BrokenRule, 0, store.put, "p", (1, 5))
        self.assertEqual(store.take("p", 0), (1, 2))
        self.assertEqual(store.put("p", (1, 5)), 1)
        self.unchanged(store, BrokenRule, 0, store.put, "p", (2, 5))


class UndoTest(StoreTest):
    def test_nothing_to_undo(self):
        for store in [Store(book()), filled(book(), []), Store(Book([], []))]:
            self.refused(NothingToUndo, 0, store.undo)
            self.refused(NothingToUndo, 0, store.undo)
            self.assertEqual(len(store), 0)

    def test_undo_returns_none(self):
        store = filled(book(), [("p", (1, 2))])
        store.take("p", 0)
        self.assertIsNone(store.undo())
        self.assertIsNone(store.undo())

    def test_what_filled_put(self):
        told = [("p", (1, 2)), ("q", (1, 2, 3)), ("p", (1, 2)), ("one", (None,))]
        store = filled(book(), told)
        for many in (3, 2, 1, 0):
            store.undo()
            self.assertEqual(store, filled(book(), told[:many]))
            self.assertEqual(len(store), many)
        self.refused(NothingToUndo, 0, store.undo)

    def test_a_taken_row_stands_at_its_index_again(self):
        told = [("p", (number, None)) for number in range(5)]
        for index in range(5):
            store = filled(book(), told)
            store.take("p", index)
            store.undo()
            self.assertEqual(store.rows("p"), [row for _, row in told])
            store.undo()
            self.assertEqual(store.rows("p"), [row for _, row in told[:4]])

    def test_a_written_sequence(self):
        store = Store(book())
        store.put("p", (1, 1))
        store.put("p", (2, 2))
        store.put("q", (3, 3, 3))
        store.take("p", 0)
        store.put("p", (4, 4))
        store.take("p", 0)
        self.assertEqual([store.rows("p"), store.rows("q")], [[(4, 4)], [(3, 3, 3)]])
        store.undo()
        self.assertEqual(store.rows("p"), [(2, 2), (4, 4)])
        store.undo()
        self.assertEqual(store.rows("p"), [(2, 2)])
        store.put("p", (5, 5))
        self.assertEqual(store.rows("p"), [(2, 2), (5, 5)])
        store.undo()
        store.undo()
        self.assertEqual([store.rows("p"), store.rows("q")], [[(1, 1), (2, 2)], [(3, 3, 3)]])
        store.undo()
        self.assertEqual([store.rows("p"), store.rows("q")], [[(1, 1), (2, 2)], []])
        store.undo()
        store.undo()
        self.assertEqual(len(store), 0)
        self.refused(NothingToUndo, 0, store.undo)

    def test_an_undo_is_not_taken_back(self):
        store = filled(book(), [("p", (1, 1)), ("p", (2, 2))])
        store.undo()
        store.undo()
        self.refused(NothingToUndo, 0, store.undo)
        self.assertEqual(store.put("p", (3, 3)), 0)
        store.undo()
        self.refused(NothingToUndo, 0, store.undo)

    def test_refused_calls_leave_nothing_to_take_back(self):
        store = filled(book(("key", "p", ["id"])), [("p", (1, 1)), ("p", (2, 2))])
        store.take("p", 0)
        self.unchanged(store, BrokenRule, 0, store.put, "p", (2, 3))
        self.unchanged(store, InvalidRow, (2,), store.put, "p", (2,))
        self.unchanged(store, UnknownTable, "r", store.put, "r", (2,))
        self.unchanged(store, NoSuchRow, 1, store.take, "p", 1)
        self.unchanged(store, UnknownTable, "r", store.take, "r", 0)
        self.unchanged(store, UnknownTable, "n", store, ("all", "n", "a"))
        store.undo()
        self.assertEqual(store.rows("p"), [(1, 1), (2, 2)])
        store.undo()
        self.assertEqual(store.rows("p"), [(1, 1)])
        store.undo()
        self.refused(NothingToUndo, 0, store.undo)

    def test_questions_and_looks_leave_nothing_to_take_back(self):
        store = filled(book(), [("p", (1, 1))])
        looks(store)
        store(("once", ("all", "p", "a")))
        store.undo()
        self.refused(NothingToUndo, 0, store.undo)

    def test_stores_are_apart(self):
        here = book()
        one, other = Store(here), Store(here)
        one.put("p", (1, 1))
        self.assertEqual([len(one), len(other), other.rows("p")], [1, 0, []])
        self.refused(NothingToUndo, 0, other.undo)


class EqualTest(StoreTest):
    def differ(self, one, other):
        self.assertFalse(one == other)
        self.assertFalse(other == one)
        self.assertTrue(one != other)
        self.assertTrue(other != one)

    def alike(self, one, other):
        self.assertTrue(one == other)
        self.assertTrue(other == one)
        self.assertFalse(one != other)

    def test_equal(self):
        told = [("p", (1, None)), ("q", (1, 2, 3)), ("p", (0, 1))]
        self.alike(filled(book(), told), filled(book(), told))
        self.alike(Store(book()), Store(book()))
        self.alike(filled(book(), told), filled(book(), [told[1], told[0], told[2]]))
        store = filled(book(), told)
        self.alike(store, store)

    def test_what_was_taken_back_does_not_count(self):
        told = [("p", (1, None)), ("q", (1, 2, 3)), ("p", (0, 1))]
        store = filled(book(), told)
        store.take("p", 0)
        self.differ(store, filled(book(), told))
        store.undo()
        self.alike(store, filled(book(), told))
        store.undo()
        self.alike(store, filled(book(), told[:2]))
        other = filled(book(), told)
        other.take("p", 1)
        self.alike(store, other)

    def test_stores_that_differ_in_one_thing(self):
        told = [("p", (1, None)), ("q", (1, 2, 3)), ("p", (0, 1))]
        store = filled(book(), told)
        self.differ(store, filled(book(), told[:2]))
        self.differ(store, filled(book(), told + [("one", (None,))]))
        self.differ(store, filled(book(), told[::-1]))
        self.differ(store, filled(book(), told + told[2:]))
        self.differ(store, filled(book(), [("p", (1, 0)), *told[1:]]))
        self.differ(store, filled(book(("key", "p", ["id"])), told))
        self.differ(Store(book()), Store(book(("key", "p", ["id"]))))
        self.differ(Store(book()), Store(Book(TABLES[:2], [])))
        self.differ(Store(Book(TABLES, [])), Store(Book(TABLES[::-1], [])))
        two = Book([("p", ["x"]), ("q", ["x"])], [])
        self.differ(filled(two, [("p", (1,))]), filled(two, [("q", (1,))]))
        self.differ(filled(two, [("p", (1,)), ("q", (2,))]), filled(two, [("p", (2,)), ("q", (1,))]))

    def test_other_things(self):
        store = filled(book(), [("p", (1, None))])
        for thing in [None, 0, 1, "", "p", (), [], {}, [(1, None)], [("p", (1, None))], book(), Store, True]:
            self.differ(store, thing)
        for thing in [None, 0, "", (), [], {}, False, Book([], [])]:
            self.differ(Store(Book([], [])), thing)


class DrawnStoreTest(StoreTest):
    def test_drawn_sequences(self):
        draw = random.Random(3)
        for _ in range(120):
            tables = model.draw_tables(draw, 4, 4)
            rules = [model.draw_rule(draw, tables) for _ in range(draw.randint(0, 6))]
            self.follow(draw, tables, rules, Store(Book(tables, rules)))

    def follow(self, draw, tables, rules, store):
        """Do drawn calls, and compare the store after each one with the rows that it should have."""
        pasts = []
        rows = {name: [] for name, _ in tables}
        for _ in range(draw.randint(5, 60)):
            way = draw.random()
            before = {name: list(held) for name, held in rows.items()}
            table, columns = draw.choice(tables)
            if way < 0.55:
                done = self.put(draw, store, tables, rules, rows, table, columns)
            elif way < 0.75:
                done = self.take(draw, store, rows, table)
            elif pasts:
                self.assertIsNone(store.undo())
                rows, done = pasts.pop(), False
            else:
                self.refused(NothingToUndo, 0, store.undo)
                done = False
            pasts += [before] if done else []
            self.assertEqual({name: store.rows(name) for name, _ in tables}, rows)
            self.assertEqual(len(store), sum(len(held) for held in rows.values()))
        told = [(name, row) for name, held in rows.items() for row in held]
        self.assertEqual(store, filled(Book(tables, rules), told))

    def put(self, draw, store, tables, rules, rows, table, columns):
        row = model.draw_row(draw, columns)
        if draw.random() < 0.1:
            worse = draw.choice([row[1:], (*row, 1)])
            self.refused(InvalidRow, worse, store.put, table, worse)
            return False
        if len(rows[table]) == 8:
            return False
        broken = model.first_broken(tables, rules, {**rows, table: [*rows[table], row]})
        if broken is not None:
            self.refused(BrokenRule, broken, store.put, table, row)
            return False
        self.assertEqual(store.put(table, row), len(rows[table]))
        rows[table].append(row)
        return True

    def take(self, draw, store, rows, table):
        index = draw.randint(-2, len(rows[table]) + 1)
        if index not in range(len(rows[table])):
            self.refused(NoSuchRow, index, store.take, table, index)
            return False
        self.assertEqual(store.take(table, index), rows[table].pop(index))
        return True


if __name__ == "__main__":
    unittest.main()
