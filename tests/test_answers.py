"""Points [2], [3], [5] and [6]: what a store answers."""

import copy
import random
import unittest

import model
from keysthrough.books import Book, shown
from keysthrough.errors import DoubleName, InvalidName, InvalidQuestion, KeyTellError, UnknownColumn, UnknownTable
from keysthrough.stores import Store, filled

TABLES = [("p", ["id", "town"]), ("q", ["id", "of"]), ("one", ["x"])]
ROWS = [
    ("p", (1, 7)), ("p", (2, None)), ("p", (1, 7)), ("p", (None, 2)), ("p", (3, 3)), ("p", (None, None)),
    ("q", (5, 1)), ("q", (6, None)), ("q", (None, 1)), ("q", (7, 3)),
]
P = [(1, 7), (2, None), (1, 7), (None, 2), (3, 3), (None, None)]
Q = [(5, 1), (6, None), (None, 1), (7, 3)]
A = ("all", "p", "a")
B = ("all", "q", "b")
NONE = ("all", "one", "n")


def store():
    return filled(Book(TABLES, []), ROWS)


class AnswerTest(unittest.TestCase):
    def answers(self, question, rows, asked=None):
        asked = store() if asked is None else asked
        kept = copy.deepcopy(question)
        found = asked(question)
        self.assertEqual(found, rows)
        self.assertIs(type(found), list)
        self.assertEqual({type(row) for row in found} | {tuple}, {tuple})
        self.assertEqual(question, kept)

    def refused(self, asked, question, error_class, value):
        kept = copy.deepcopy(question)
        with self.assertRaises(KeyTellError) as held:
            asked(question)
        self.assertIs(type(held.exception), error_class)
        self.assertEqual(held.exception.value, value)
        self.assertEqual(question, kept)
        found = [id(one) for one in model.lists_in(held.exception.value)]
        self.assertEqual(len(found), len(set(found)))
        self.assertEqual(set(found) & {id(one) for one in model.lists_in(question)}, set())


class KindsTest(AnswerTest):
    def test_all(self):
        self.answers(A, P)
        self.answers(("all", "q", "a"), Q)
        self.answers(NONE, [])

    def test_by_name(self):
        self.assertEqual(store()(question=B), Q)

    def test_pair(self):
        self.answers(("pair", A, B, [("a.id", "b.of")]),
                     [(1, 7, 5, 1), (1, 7, None, 1), (1, 7, 5, 1), (1, 7, None, 1), (3, 3, 7, 3)])
        self.answers(("pair", B, A, [("b.of", "a.id")]),
                     [(5, 1, 1, 7), (5, 1, 1, 7), (None, 1, 1, 7), (None, 1, 1, 7), (7, 3, 3, 3)])
        self.answers(("pair", A, B, [("a.town", "b.id")]), [(1, 7, 7, 3), (1, 7, 7, 3)])

    def test_missing_values_are_no_partners(self):
        self.answers(("pair", A, ("all", "p", "c"), [("a.town", "c.town"), ("a.id", "c.id")]),
                     [(1, 7, 1, 7), (1, 7, 1, 7), (1, 7, 1, 7), (1, 7, 1, 7), (3, 3, 3, 3)])
        lone = filled(Book(TABLES, []), [("p", (None, 1)), ("q", (1, None)), ("q", (None, None))])
        self.answers(("pair", A, B, [("a.id", "b.of")]), [], lone)
        self.answers(("pair", A, B, [("a.id", "b.id")]), [], lone)
        self.answers(("pair", A, B, [("a.town", "b.id"), ("a.id", "b.of")]), [], lone)
        self.answers(("pair", A, B, [("a.town", "b.id")]), [(None, 1, 1, None)], lone)
        self.answers(("left", A, B, [("a.town", "b.id"), ("a.id", "b.of")]), [(None, 1, None, None)], lone)

    def test_pair_without_pairs(self):
        self.answers(("pair", A, B, []), [row + mate for row in P for mate in Q])
        self.answers(("pair", A, NONE, []), [])
        self.answers(("pair", NONE, A, []), [])
        self.answers(("pair", ("show", A, []), ("show", B, []), []), [()] * 24)

    def test_all_pairs_count(self):
        self.answers(("pair", A, B, [("a.id", "b.of"), ("a.town", "b.id")]), [])
        self.answers(("pair", A, B, [("a.id", "b.of"), ("a.town", "b.of")]), [(3, 3, 7, 3)])
        self.answers(("pair", A, B, [("a.id", "b.of"), ("a.id", "b.of")]), store()(("pair", A, B, [("a.id", "b.of")])))

    def test_left(self):
        self.answers(("left", A, B, [("a.id", "b.of")]), [
            (1, 7, 5, 1), (1, 7, None, 1), (2, None, None, None), (1, 7, 5, 1), (1, 7, None, 1), (None, 2, None, None),
            (3, 3, 7, 3), (None, None, None, None),
        ])
        self.answers(("left", A, ("show", B, ["b.of"]), [("a.town", "b.of")]), [
            (1, 7, None), (2, None, None), (1, 7, None), (None, 2, None), (3, 3, 3), (None, None, None)])

    def test_left_without_pairs_and_without_partners(self):
        self.answers(("left", A, B, []), [row + mate for row in P for mate in Q])
        self.answers(("left", A, NONE, []), [(*row, None) for row in P])
        self.answers(("left", A, NONE, [("a.id", "n.x")]), [(*row, None) for row in P])
        self.answers(("left", NONE, A, []), [])
        self.answers(("left", A, ("show", B, []), []), [row for row in P for _ in Q])
        self.answers(("left", A, ("show", NONE, []), []), P)
        self.answers(("left", A, ("pair", B, NONE, []), []), [(*row, None, None, None) for row in P])

    def test_where(self):
        for told, rows in [
            ([], P), ([("is", "a.id", 1)], [(1, 7), (1, 7)]), ([("is", "a.id", 0)], []),
            ([("is", "a.town", 3)], [(3, 3)]),
            ([("missing", "a.id")], [(None, 2), (None, None)]), ([("missing", "a.town")], [(2, None), (None, None)]),
            ([("same", "a.id", "a.town")], [(3, 3)]), ([("same", "a.id", "a.id")], [(1, 7), (2, None), (1, 7), (3, 3)]),
            ([("missing", "a.id"), ("missing", "a.town")], [(None, None)]),
            ([("missing", "a.id"), ("is", "a.id", 1)], []),
            ([("is", "a.id", 2), ("missing", "a.town")], [(2, None)]), ([("is", "a.id", 1), ("is", "a.id", 2)], []),
            ([("same", "a.town", "a.id"), ("is", "a.town", 3)], [(3, 3)]), ([("is", "a.town", 7)] * 80, [(1, 7)] * 2),
            ([("is", "a.id", 1), ("missing", "a.town")], []), ([("missing", "a.town"), ("is", "a.id", 1)], []),
        ]:
            self.answers(("where", A, told), rows)

    def test_where_zero_is_not_missing(self):
        asked = filled(Book(TABLES, []), [("p", (0, 0)), ("p", (None, 0)), ("p", (-1, -2))])
        self.answers(("where", A, [("missing", "a.id")]), [(None, 0)], asked)
        self.answers(("where", A, [("is", "a.id", 0)]), [(0, 0)], asked)
        self.answers(("where", A, [("same", "a.id", "a.town")]), [(0, 0)], asked)
        self.answers(("pair", A, ("all", "p", "c"), [("a.id", "c.id")]), [(0, 0, 0, 0), (-1, -2, -1, -2)], asked)
        self.answers(("once", ("show", A, ["a.town"])), [(0,), (-2,)], asked)

    def test_show(self):
        self.answers(("show", A, ["a.town", "a.id"]), [(town, key) for key, town in P])
        self.answers(("show", A, ["a.town"]), [(town,) for _, town in P])
        self.answers(("show", A, []), [()] * 6)
        self.answers(("show", ("show", A, ["a.town", "a.id"]), ["a.id"]), [(key,) for key, _ in P])
        self.answers(("show", NONE, []), [])

    def test_both(self):
        self.answers(("both", A, B), P + Q)
        self.answers(("both", B, A), Q + P)
        self.answers(("both", A, A), P + P)
        self.answers(("both", A, ("show", A, ["a.town", "a.id"])), P + [(town, key) for key, town in P])
        self.answers(("both", NONE, ("show", B, ["b.id"])), [(key,) for key, _ in Q])
        self.answers(("where", ("both", A, B), [("is", "a.town", 1)]), [(5, 1), (None, 1)])
        self.answers(("show", ("both", ("show", A, ["a.town"]), ("show", B, ["b.id"])), ["a.town"]),
                     [(town,) for _, town in P] + [(key,) for key, _ in Q])

    def test_once(self):
        self.answers(("once", A), [(1, 7), (2, None), (None, 2), (3, 3), (None, None)])
        self.answers(("once", ("show", A, ["a.town"])), [(7,), (None,), (2,), (3,)])
        self.answers(("once", ("both", B, A)), Q + [(1, 7), (2, None), (None, 2), (3, 3), (None, None)])
        self.answers(("once", ("show", A, [])), [()])
        self.answers(("once", ("show", NONE, [])), [])
        self.answers(("once", ("once", A)), [(1, 7), (2, None), (None, 2), (3, 3), (None, None)])

    def test_questions_within_one_another(self):
        doubled = ("once", ("pair", A, ("both", B, ("all", "q", "c")), [("a.id", "b.of")]))
        self.answers(doubled, [(1, 7, 5, 1), (1, 7, None, 1), (3, 3, 7, 3)])
        inner = ("once", ("pair", A, B, [("a.id", "b.of")]))
        self.answers(inner, [(1, 7, 5, 1), (1, 7, None, 1), (3, 3, 7, 3)])
        towns = ("left", ("show", A, ["a.town"]), ("show", inner, ["b.of", "b.id"]), [("a.town", "b.id")])
        outer = ("left", towns, NONE, [])
        self.answers(outer, [
            (7, 3, 7, None), (None, None, None, None), (7, 3, 7, None), (2, None, None, None), (3, None, None, None),
            (None, None, None, None)])
        swapped = ("show", outer, ["b.id", "a.town"])
        self.answers(("where", swapped, [("missing", "b.id"), ("is", "a.town", 2)]), [(None, 2)])
        lone = ("where", ("left", A, B, [("a.id", "b.of")]), [("missing", "b.of")])
        self.answers(("both", lone, ("pair", B, A, [("b.id", "a.town")])), [
            (2, None, None, None), (None, 2, None, None), (None, None, None, None), (7, 3, 1, 7), (7, 3, 1, 7)])


class ChangedTest(AnswerTest):
    def test_a_question_that_is_changed_between_calls(self):
        asked = store()
        pairs, conditions, columns = [("a.id", "b.of")], [("missing", "b.of")], ["a.town"]
        question = ("show", ("where", ("left", A, B, pairs), conditions), columns)
        self.assertEqual(asked(question), [(None,), (2,), (None,)])
        columns.append("a.id")
        self.assertEqual(asked(question), [(None, 2), (2, None), (None, None)])
        conditions[0] = ("is", "b.of", 3)
        self.assertEqual(asked(question), [(3, 3)])
        pairs.clear()
        self.assertEqual(asked(question), [(town, key) for key, town in P])
        columns.append("no")
        self.refused(asked, question, UnknownColumn, "no")
        columns[:] = ["b.id", "b.id"]
        self.refused(asked, question, DoubleName, "b.id")
        columns.pop()
        self.assertEqual(asked(question), [(7,)] * 6)

    def test_an_answer_that_is_changed(self):
        asked = store()
        of_one = [A, ("once", A), ("where", A, []), ("show", A, [])]
        for question in [*of_one, ("both", A, A), ("pair", A, B, []), ("left", A, B, [])]:
            first = asked(question)
            kept = list(first)
            first.clear()
            self.assertEqual(asked(question), kept)
            self.assertEqual([asked.rows("p"), asked.rows("q"), len(asked)], [P, Q, 10])

    def test_told_rows_that_are_changed(self):
        told = list(ROWS)
        asked = filled(Book(TABLES, []), told)
        told.pop(0)
        told.append(("one", (1,)))
        self.answers(A, P, asked)
        self.answers(NONE, [], asked)

    def test_a_store_that_is_changed_between_calls(self):
        asked = store()
        question = ("left", B, A, [("b.of", "a.id")])
        self.assertEqual(len(asked(question)), 6)
        asked.take("p", 0)
        self.assertEqual(asked(question), [(5, 1, 1, 7), (6, None, None, None), (None, 1, 1, 7), (7, 3, 3, 3)])
        asked.put("p", (1, 9))
        self.assertEqual(asked(question)[:2], [(5, 1, 1, 7), (5, 1, 1, 9)])
        asked.undo()
        asked.undo()
        self.assertEqual(len(asked(question)), 6)


class RefusedTest(AnswerTest):
    def test_the_errors_of_shown(self):
        left = ("left", A, B, [])
        for question, error_class, value in [
            ((), InvalidQuestion, ()),
            (("every", "p"), InvalidQuestion, ("every", "p")),
            (("pair", A, ("all", "p"), [("no", "non")]), InvalidQuestion, ("all", "p")),
            (("all", "none", "A"), InvalidName, "A"),
            (("all", "none", "a"), UnknownTable, "none"),
            (("where", A, [("is", "a.id", 1), ("same", "a.id", "no")]), UnknownColumn, "no"),
            (("pair", A, B, [("a.id", "b.town")]), UnknownColumn, "b.town"),
            (("left", NONE, B, [("no", "b.id")]), UnknownColumn, "no"),
            (("show", A, ["a.town", "a.town"]), DoubleName, "a.town"),
            (("pair", A, A, []), DoubleName, "a.id"),
            (("both", A, NONE), InvalidQuestion, ("both", A, NONE)),
            (("where", ("both", NONE, A), [("missing", "no")]), InvalidQuestion, ("both", NONE, A)),
            (("once", ("where", left, [])), InvalidQuestion, ("once", ("where", left, []))),
            (("pair", NONE, left, []), InvalidQuestion, ("pair", NONE, left, [])),
            (("left", NONE, ("both", A, B), []), InvalidQuestion, ("left", NONE, ("both", A, B), [])),
            (("left", NONE, left, []), InvalidQuestion, ("left", NONE, left, [])),
        ]:
            for asked in [store(), Store(Book(TABLES, []))]:
                self.refused(asked, question, error_class, value)
                self.assertIn(len(asked), (0, 10))

    def test_refused_questions_change_nothing(self):
        asked = store()
        for question in [(), ("all", "no", "a"), ("once", ("left", A, B, [])), ("show", A, ["no"])]:
            with self.assertRaises(KeyTellError):
                asked(question)
            self.assertEqual(asked, store())
        for many in range(9, -1, -1):
            asked.undo()
            self.assertEqual(len(asked), many)

    def test_a_store_without_rows_answers(self):
        asked = Store(Book(TABLES, []))
        of_one = [A, ("once", A), ("where", A, []), ("show", A, [])]
        for question in [*of_one, ("both", A, B), ("pair", A, B, []), ("left", A, B, [])]:
            self.answers(question, [], asked)


class GreatTest(AnswerTest):
    def test_eight_tables(self):
        book = Book([("p", list("abcdefgh")), ("q", ["a", "b"])], [])
        rows = [("p", (number, number + 1) + (None,) * 5 + (number % 2,)) for number in range(8)]
        asked = filled(book, rows + [("q", (number, 7 - number)) for number in range(8)])
        question = ("all", "p", "a")
        for last, short in zip("abcdefg", "bcdefgh"):
            question = ("left", question, ("all", "p", short), [(last + ".b", short + ".a")])
        held = dict(enumerate(row for _, row in rows))
        chain = [sum((held.get(number + step, (None,) * 8) for step in range(8)), ()) for number in range(8)]
        self.answers(question, chain, asked)
        shorts = "hgfedcba"
        names = [short + "." + column for short in shorts for column in "ab"]
        self.answers(("show", question, names[:3]), [(row[56], row[57], row[48]) for row in chain], asked)
        self.answers(("where", question, [("missing", "h.a"), ("is", "g.a", 7)]), [chain[1]], asked)

    def test_parts_of_a_thousand_rows(self):
        book = Book([("p", ["x", "y"])], [])
        asked = filled(book, [("p", (number, number % 2)) for number in range(8)])
        one = ("pair", ("pair", ("all", "p", "a"), ("all", "p", "b"), []), ("all", "p", "c"), [])
        other = ("pair", ("pair", ("all", "p", "d"), ("all", "p", "e"), []), ("all", "p", "f"), [])
        rows = asked(one)
        self.assertEqual(len(rows), 512)
        pairs = [("a.x", "d.x"), ("b.x", "e.x"), ("c.x", "f.x"), ("c.y", "f.y")] * 20
        self.answers(("pair", one, other, pairs), [row + row for row in rows], asked)
        self.answers(("left", one, other, pairs), [row + row for row in rows], asked)
        self.answers(("once", ("both", one, other)), rows, asked)
        wrong = [("is", "a.x", 3), ("same", "b.y", "c.y"), ("same", "b.x", "c.x"), ("missing", "a.y")]
        self.answers(("where", one, wrong), [], asked)
        self.assertEqual(len(asked(("where", one, wrong[:3]))), 8)

    def test_24_brackets(self):
        question = ("both", A, A)
        for place in range(23):
            question = [("where", question, []), ("show", question, ["a.town", "a.id"]), ("once", question)][place % 3]
        self.answers(question, [(7, 1), (None, 2), (2, None), (3, 3), (None, None)])

    def test_two_hundred_calls(self):
        asked = store()
        for _ in range(50):
            index = asked.put("q", (9, 3))
            self.assertEqual(len(asked(("pair", A, B, [("a.id", "b.of")]))), 6)
            asked.take("q", index)
            self.assertEqual(len(asked), 10)


class DrawnTest(AnswerTest):
    def test_drawn_questions(self):
        draw = random.Random(4)
        rows_seen = 0
        for _ in range(600):
            tables = model.draw_tables(draw, 4, 4)
            rules = [model.draw_rule(draw, tables) for _ in range(draw.choice([0, 0, 1, 2]))]
            rows = self.draw_rows(draw, tables, rules)
            asked = filled(Book(tables, rules), [(name, row) for name in rows for row in rows[name]])
            for _ in range(3):
                question = model.draw_question(draw, tables, draw.randint(1, 5), draw.randint(1, 6), list("abcdefgh"))
                if self.is_small(tables, rows, question):
                    answer = model.answer(tables, rows, question)
                    rows_seen += len(answer)
                    self.answers(question, answer, asked)
                    many = len(shown(Book(tables, rules), question))
                    self.assertEqual([len(row) for row in answer], [many] * len(answer))
        self.assertGreater(rows_seen, 4000)

    def draw_rows(self, draw, tables, rules):
        rows = {name: [] for name, _ in tables}
        for name, columns in tables:
            for _ in range(draw.randint(0, 8)):
                row = model.draw_row(draw, columns)
                if model.first_broken(tables, rules, {**rows, name: [*rows[name], row]}) is None:
                    rows[name].append(row)
        return rows

    def is_small(self, tables, rows, question):
        most = 1
        for part in model.parts_in(question):
            most *= len(rows[part[1]]) if part[0] == "all" else 1
        return most <= 600


class ExamplesTest(unittest.TestCase):
    def test_the_examples_of_the_document(self):
        book = Book([("p", ["id", "town"]), ("q", ["id", "of"])], [("key", "p", ["id"]), ("key", "q", ["id"])])
        joined = ("pair", ("all", "p", "a"), ("all", "q", "b"), [("a.id", "b.of")])
        asked = filled(book, [("p", (1, 7)), ("p", (2, None)), ("q", (5, 1)), ("q", (6, 1)), ("q", (7, None))])
        left = ("left", ("all", "p", "a"), ("all", "q", "b"), [("a.id", "b.of")])
        self.assertEqual(
            repr([shown(book, joined), asked(joined), asked(left)]),
            "[['a.id', 'a.town', 'b.id', 'b.of'], [(1, 7, 5, 1), (1, 7, 6, 1)], "
            "[(1, 7, 5, 1), (1, 7, 6, 1), (2, None, None, None)]]",
        )
        once = ("once", ("show", joined, ["a.town"]))
        where = ("where", ("all", "p", "x"), [("missing", "x.town")])
        self.assertEqual(
            repr([asked(once), asked(where), len(asked), asked.rows("p")]),
            "[[(7,)], [(2, None)], 5, [(1, 7), (2, None)]]",
        )


if __name__ == "__main__":
    unittest.main()
