"""Points [2] to [5] and the interface of texts.py: the texts of books and questions."""

import copy
import random
import unittest

import model
from keysthrough.books import Book
from keysthrough.readings import read_book, read_question
from keysthrough.texts import show_book, show_question

A = ("all", "p", "a")
B = ("all", "q", "b")


class BookTextTest(unittest.TestCase):
    def shows(self, tables, rules, text):
        book = Book(tables, rules)
        self.assertEqual(show_book(book), text)
        self.assertEqual(read_book(text), book)
        self.assertEqual((book.tables, book.rules), (tables, rules))

    def test_the_example_of_the_document(self):
        book = Book([("p", ["id", "town"])], [("key", "p", ["id"]), ("settles", "p", [], "town")])
        self.assertEqual(show_book(book), "table p id town; key p id; settles p > town")
        self.assertEqual(show_book(book=book), "table p id town; key p id; settles p > town")

    def test_tables(self):
        self.shows([], [], "")
        self.shows([("p", ["id"])], [], "table p id")
        self.shows([("p", ["id"]), ("abcdefgh", ["z", "abcdefgh", "a"])], [], "table p id; table abcdefgh z abcdefgh a")

    def test_rules(self):
        tables = [("p", ["id", "of"]), ("q", ["of"])]
        head = "table p id of; table q of"
        self.shows(tables, [("key", "q", [])], head + "; key q")
        self.shows(tables, [("key", "p", ["of", "id", "of"])], head + "; key p of id of")
        self.shows(tables, [("settles", "p", ["of"], "id")], head + "; settles p of > id")
        self.shows(tables, [("settles", "p", ["of", "id", "id"], "id")], head + "; settles p of id id > id")
        self.shows(tables, [("settles", "q", [], "of"), ("key", "p", ["id"]), ("settles", "q", [], "of")],
                   head + "; settles q > of; key p id; settles q > of")

    def test_names_that_are_words(self):
        tables = [("table", ["key", "table"]), ("key", ["settles"]), ("settles", ["id"])]
        rules = [("key", "key", ["settles"]), ("settles", "table", ["table"], "key"), ("settles", "settles", [], "id")]
        self.shows(tables, rules, "table table key table; table key settles; table settles id; key key settles; "
                                  "settles table table > key; settles settles > id")

    def test_great_books(self):
        tables = [(name, ["a", "b", "c", "d", "e", "f", "g", "h"]) for name in "pqrstu"]
        rules = [("settles", name, ["a", "b"], column) for name in "pqrst" for column in "efgh"]
        text = show_book(Book(tables, rules))
        self.assertEqual(len(text.split("; ")), 26)
        self.assertTrue(text.startswith("table p a b c d e f g h; table q a b c d e f g h; "))
        self.assertTrue(text.endswith("settles t a b > g; settles t a b > h"))
        self.assertEqual(read_book(text), Book(tables, rules))

    def test_drawn_books(self):
        draw = random.Random(94)
        for _ in range(300):
            tables = model.draw_tables(draw, 6, 8)
            rules = [model.draw_rule(draw, tables) for _ in range(draw.randint(0, 20))]
            self.shows(tables, rules, book_text(tables, rules))


def book_text(tables, rules):
    """The text of a book, told in another way."""
    text = "".join("; table " + name + "".join(" " + column for column in columns) for name, columns in tables)
    for rule in rules:
        text += "; " + rule[0] + " " + rule[1] + "".join(" " + column for column in rule[2])
        text += " > " + rule[3] if rule[0] == "settles" else ""
    return text[2:]


class QuestionTextTest(unittest.TestCase):
    def shows(self, question, text):
        kept = copy.deepcopy(question)
        self.assertEqual(show_question(question), text)
        self.assertEqual(show_question(question=question), text)
        self.assertEqual(question, kept)
        self.assertEqual(read_question(text), question)

    def test_the_examples_of_the_document(self):
        asked = ("where", ("pair", A, ("all", "p", "b"), [("a.id", "b.town")]),
                 [("is", "a.id", -4), ("missing", "b.id"), ("same", "a.id", "b.town")])
        self.shows(asked, "where (pair (all p as a) (all p as b) a.id=b.town) "
                          "a.id is -4, b.id missing, a.id same b.town")
        self.shows(("both", ("once", ("show", A, ["a.id"])), ("all", "q", "c")),
                   "both (once (show (all p as a) a.id)) (all q as c)")

    def test_all(self):
        self.shows(A, "all p as a")
        self.shows(("all", "as", "as"), "all as as as")
        self.shows(("all", "abcdefgh", "zyxwvuts"), "all abcdefgh as zyxwvuts")

    def test_pair_and_left(self):
        for word in ("pair", "left"):
            self.shows((word, A, B, []), word + " (all p as a) (all q as b)")
            self.shows((word, A, B, [("a.id", "b.of")]), word + " (all p as a) (all q as b) a.id=b.of")
            self.shows((word, A, B, [("a.id", "b.of"), ("a.x", "b.x"), ("a.id", "b.of")]),
                       word + " (all p as a) (all q as b) a.id=b.of a.x=b.x a.id=b.of")
            self.shows((word, (word, A, B, [("a.y", "b.x")]), ("once", A), []),
                       word + " (" + word + " (all p as a) (all q as b) a.y=b.x) (once (all p as a))")

    def test_where(self):
        self.shows(("where", A, []), "where (all p as a)")
        self.shows(("where", A, [("missing", "a.id")]), "where (all p as a) a.id missing")
        self.shows(("where", A, [("same", "a.id", "a.id")]), "where (all p as a) a.id same a.id")
        for value in [0, -1, 1, 10, 999, -999, 9999, -9999, 100, -10]:
            self.shows(("where", A, [("is", "a.id", value)]), "where (all p as a) a.id is " + str(value))
        self.shows(("where", A, [("is", "a.id", 0), ("is", "a.of", 12)]), "where (all p as a) a.id is 0, a.of is 12")

    def test_show(self):
        self.shows(("show", A, []), "show (all p as a)")
        self.shows(("show", A, ["a.id"]), "show (all p as a) a.id")
        self.shows(("show", A, ["a.of", "b.id", "a.of"]), "show (all p as a) a.of b.id a.of")

    def test_both_and_once(self):
        self.shows(("both", A, A), "both (all p as a) (all p as a)")
        self.shows(("once", A), "once (all p as a)")
        self.shows(("both", ("both", A, B), ("once", ("once", B))),
                   "both (both (all p as a) (all q as b)) (once (once (all q as b)))")

    def test_questions_that_are_not_sound(self):
        self.shows(("once", ("left", A, A, [("b.no", "nope.x")])), "once (left (all p as a) (all p as a) b.no=nope.x)")
        self.shows(("where", ("show", A, []), [("same", "x.y", "y.x")]), "where (show (all p as a)) x.y same y.x")

    def test_names_that_are_words(self):
        conditions = [("missing", "missing.same"), ("same", "is.is", "same.missing")]
        self.shows(("where", ("all", "is", "missing"), conditions),
                   "where (all is as missing) missing.same missing, is.is same same.missing")
        self.shows(("show", ("all", "all", "show"), ["show.all"]), "show (all all as show) show.all")

    def test_great_questions(self):
        question = ("all", "p", "a")
        text = "all p as a"
        for index in range(24):
            question, text = [
                (("once", question), f"once ({text})"),
                (("where", question, [("missing", "a.id")]), f"where ({text}) a.id missing"),
                (("both", B, question), f"both (all q as b) ({text})"),
                (("left", question, B, [("a.id", "b.of")]), f"left ({text}) (all q as b) a.id=b.of"),
                (("show", question, ["a.id", "a.town"]), f"show ({text}) a.id a.town"),
            ][index % 5]
        self.shows(question, text)
        self.shows(("pair", A, B, [("a.id", "b.of")] * 80), "pair (all p as a) (all q as b)" + " a.id=b.of" * 80)
        self.shows(("where", A, [("is", "a.id", -9)] * 80), "where (all p as a) " + ", ".join(["a.id is -9"] * 80))

    def test_a_question_that_is_changed_between_calls(self):
        columns = ["a.id"]
        question = ("once", ("show", A, columns))
        self.shows(question, "once (show (all p as a) a.id)")
        columns.append("a.of")
        self.shows(question, "once (show (all p as a) a.id a.of)")
        columns.clear()
        self.shows(question, "once (show (all p as a))")

    def test_drawn_questions(self):
        draw = random.Random(95)
        found = set()
        for _ in range(500):
            tables = model.draw_tables(draw, 6, 8)
            question = model.draw_question(draw, tables, draw.randint(1, 8), 8, list("abcdefgh"))
            found |= set(model.words_in(question))
            self.shows(question, question_text(question))
        self.assertEqual(found, set(model.FORMS))


def question_text(question):
    """The text of a question, told in another way."""
    word = question[0]
    if word == "all":
        return "all " + question[1] + " as " + question[2]
    text = word
    for kind, thing in zip(model.FORMS[word], question[1:]):
        if kind == "part":
            text += " (" + question_text(thing) + ")"
    if word == "show":
        for column in question[2]:
            text += " " + column
    if word in ("pair", "left"):
        for one, other in question[3]:
            text += " " + one + "=" + other
    if word == "where":
        for index, told in enumerate(question[2]):
            text += (", " if index else " ") + told[1] + " " + told[0]
            text += "" if told[0] == "missing" else " " + str(told[2])
    return text


if __name__ == "__main__":
    unittest.main()
