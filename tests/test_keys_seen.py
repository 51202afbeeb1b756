"""Points [7] and [8]: what keys.py tells, against what all small stores show."""

import random
import unittest

import model
from keysthrough.books import Book, shown
from keysthrough.keys import (
    can_answer,
    closure,
    counter,
    counter_settles,
    doubles,
    is_key,
    least_keys,
    settles,
)
from keysthrough.readings import read_book, read_question
from keysthrough.stores import filled
from keysthrough.texts import show_book, show_question

# Questions over the tables p (id, town) and q (id, of).
WITH_ONE_TABLE = [
    "all p as a",
    "where (all p as a)",
    "where (all p as a) a.id is 4",
    "where (all p as a) a.town missing",
    "where (all p as a) a.id same a.town",
    "where (all p as a) a.id same a.id",
    "where (all p as a) a.id is 4, a.id is 5",
    "where (all p as a) a.id missing, a.id is 4",
    "where (all p as a) a.id missing, a.id same a.town",
    "where (all p as a) a.id is 4, a.id same a.town",
    "show (all p as a) a.town",
    "show (all p as a) a.town a.id",
    "show (all p as a)",
    "once (all p as a)",
    "once (show (all p as a) a.town)",
    "once (show (all p as a))",
    "show (once (all p as a)) a.town",
    "once (where (show (all p as a) a.town) a.town is 4)",
]
WITH_TWO_TABLES = [
    "pair (all p as a) (all q as b) a.id=b.of",
    "pair (all p as a) (all q as b)",
    "pair (all p as a) (all q as b) a.id=b.of a.id=b.id",
    "pair (all p as a) (all p as b) a.id=b.id",
    "pair (all p as a) (all p as b) a.id=b.town",
    "pair (where (all p as a) a.id missing) (all q as b) a.id=b.id",
    "pair (where (all p as a) a.id is 4) (where (all q as b) b.id is 5) a.id=b.id",
    "pair (once (show (all p as a) a.town)) (all q as b) a.town=b.of",
    "pair (all p as a) (once (show (all q as b) b.of)) a.id=b.of",
    "pair (once (show (all p as a))) (all q as b)",
    "left (all p as a) (all q as b) a.id=b.of",
    "left (all p as a) (all q as b)",
    "left (all p as a) (all p as b) a.id=b.id",
    "left (all p as a) (all p as b) a.id=b.town a.town=b.id",
    "left (all p as a) (where (all p as b) b.town missing) a.id=b.id",
    "left (all p as a) (where (all p as b) b.town missing) a.town=b.id",
    "left (all p as a) (where (all p as b) b.id same b.town) a.id=b.id",
    "left (all p as a) (where (all q as b) b.id is 4) a.id=b.of",
    "left (all p as a) (where (all q as b) b.id is 4, b.id missing) a.id=b.of",
    "left (where (all p as a) a.id is 4) (where (all p as b) b.id is 4) a.id=b.id",
    "left (where (all p as a) a.id missing) (all q as b) a.id=b.of",
    "left (all p as a) (once (show (all q as b) b.of)) a.id=b.of",
    "left (all p as a) (show (all p as b))",
    "left (once (show (all p as a) a.town)) (all p as b) a.town=b.town",
    "where (left (all p as a) (all q as b) a.id=b.of) b.id missing",
    "where (left (all p as a) (all q as b) a.id=b.of) b.of missing",
    "where (left (all p as a) (all p as b) a.id=b.id) b.id missing, a.town missing",
    "where (left (all p as a) (all q as b) a.id=b.of) b.id is 4",
    "where (left (all p as a) (all q as b) a.id=b.of) b.id same b.of",
    "show (left (all p as a) (all q as b) a.id=b.of) b.id a.town",
    "show (pair (all p as a) (all q as b) a.id=b.of) a.id",
    "once (show (pair (all p as a) (all q as b) a.id=b.of) a.town b.id)",
    "once (pair (once (all p as a)) (show (all q as b)))",
    "both (all p as a) (all p as b)",
    "both (all p as a) (all q as a)",
    "both (where (all p as a) a.id is 4) (where (all p as b) b.id is 5)",
    "both (where (all p as a) a.id missing) (where (all p as b) b.id is 5)",
    "both (all p as a) (show (all p as b) b.town b.id)",
    "once (both (all p as a) (all p as b))",
    "once (both (all p as a) (show (all p as b) b.town b.id))",
    "both (once (show (all p as a) a.id)) (once (show (all q as b) b.of))",
    "where (both (show (all p as a) a.id) (show (all q as b) b.of)) a.id is 4",
    "both (show (all p as a)) (show (all q as a))",
    "once (both (show (all p as a)) (show (all q as a)))",
]
WITH_THREE_TABLES = [
    "pair (pair (all p as a) (all q as b) a.id=b.of) (all q as c) b.id=c.of",
    "pair (all p as a) (once (both (show (all p as b) b.id) (show (all q as c) c.of))) a.town=b.id",
    "pair (both (show (all p as a) a.id) (show (all q as c) c.id)) (show (all p as b) b.town) a.id=b.town",
    "left (left (all p as a) (show (all q as b) b.id b.of) a.id=b.of) (show (all q as c) c.of) b.id=c.of",
    "left (both (show (all p as a) a.id) (show (all q as c) c.id)) (show (all p as b) b.town) a.id=b.town",
    "left (once (both (show (all p as a) a.id) (show (all q as c) c.id))) (show (all p as b) b.town) a.id=b.town",
    "pair (left (show (all p as a) a.id) (show (all q as b) b.id b.of) a.id=b.of) (show (all q as c) c.of) b.id=c.of",
    "both (show (left (all p as a) (all q as b) a.id=b.of) a.id b.id) (all p as c)",
    "left (all p as a) (show (pair (all p as b) (all q as c) b.town=c.of) b.id) a.id=b.id",
    "where (left (all p as a) (pair (all q as b) (show (all q as c) c.of) b.id=c.of) a.id=b.of) b.id missing",
    "both (both (show (all p as a) a.id) (show (all p as b) b.id)) (show (all q as c) c.id)",
    "once (both (once (both (show (all p as a) a.id) (show (all p as b) b.id))) (show (all q as c) c.id))",
]
TABLES = "table p id town; table q id of"
RULES = [
    "",
    "; key p id; key q id",
    "; settles p id > town; settles q of > id",
    "; key p town id; settles p > town; key q of",
    "; key p; settles q > of",
]


class SeenTest(unittest.TestCase):
    def agrees(self, book, question, most):
        """Compare all that is told of a question with what the stores with at most so many rows show."""
        with self.subTest(book=show_book(book), question=show_question(question), most=most):
            seen = model.Seen(book, question, most)
            columns = shown(book, question)
            for lot in model.lots_of(range(len(columns))):
                self.agrees_of_lot(book, question, columns, lot, seen)
            self.agrees_of_all(book, question, columns, seen)
        return seen

    def agrees_of_lot(self, book, question, columns, lot, seen):
        names = [columns[place] for place in lot]
        found = counter(book, question, names)
        self.least(book, question, found, seen, lot)
        self.assertIs(is_key(book, question, names), found is None)
        settled = closure(book, question, names)
        for place, column in enumerate(columns):
            found = counter_settles(book, question, names, column)
            self.least(book, question, found, seen, lot, place)
            self.assertIs(settles(book, question, names, column), found is None)
            self.assertEqual(column in settled, found is None)
        self.assertEqual(settled, [column for column in columns if column in settled])

    def least(self, book, question, found, seen, lot, place=None):
        """What was found is a least store that shows it, among all stores that were seen, and those that could be."""
        least = seen.against(lot, place)
        bound = 2 * model.words_in(question).count("all")
        if found is None:
            self.assertIsNone(least)
            return
        self.assertLessEqual(len(found), bound)
        self.assertTrue(model.shows_against(filled(book, found)(question), lot, place))
        order = [name for name, _ in book.tables]
        self.assertEqual(found, sorted(found, key=lambda row: order.index(row[0])))
        if least is None:
            self.assertGreater(len(found), seen.most)
        else:
            self.assertEqual(len(found), least)

    def agrees_of_all(self, book, question, columns, seen):
        keys = [lot for lot in model.lots_of(columns) if is_key(book, question, lot)]
        least = [lot for lot in keys if not any(set(other) < set(lot) for other in keys)]
        self.assertEqual(least_keys(book, question), least)
        every = range(len(columns))
        two = counter(book, question, columns)
        self.assertIs(doubles(book, question), two is not None)
        self.assertIs(can_answer(book, question, 2), counter(book, question, []) is not None)
        if seen.against(every) is not None:
            self.assertTrue(doubles(book, question))
        if seen.answering is not None:
            self.assertTrue(can_answer(book, question, 1))
        # A row of an answer needs no more rows than the question has tables.
        elif seen.most >= model.words_in(question).count("all"):
            self.assertFalse(can_answer(book, question, 1))


class WrittenTest(SeenTest):
    def all_agree(self, texts, most):
        for rules in RULES:
            book = read_book(TABLES + rules)
            for text in texts:
                self.agrees(book, read_question(text), most)

    def test_questions_with_one_table(self):
        self.all_agree(WITH_ONE_TABLE, 2)

    def test_questions_with_two_tables(self):
        self.all_agree(WITH_TWO_TABLES, 3)

    def test_questions_with_three_tables(self):
        self.all_agree(WITH_THREE_TABLES, 3)

    def test_all_stores_that_could_show_something(self):
        for rules in ["", "; key p x", "; settles p > x", "; key q x; key p"]:
            book = read_book("table p x; table q x" + rules)
            for text in NARROW:
                question = read_question(text)
                self.agrees(book, question, 2 * text.count("all"))


# Questions over the tables p (x) and q (x).
NARROW = [
    "pair (all p as a) (all q as b) a.x=b.x",
    "pair (all p as a) (all q as b)",
    "left (all p as a) (all q as b) a.x=b.x",
    "left (all p as a) (all p as b) a.x=b.x",
    "left (all p as a) (all p as b)",
    "left (all p as a) (where (all q as b) b.x missing)",
    "left (once (all p as a)) (once (all q as b)) a.x=b.x",
    "both (all p as a) (all q as b)",
    "once (both (all p as a) (all q as b))",
    "pair (pair (all p as a) (all p as b) a.x=b.x) (all p as c) b.x=c.x",
    "pair (all p as a) (pair (all p as b) (all q as c))",
    "pair (pair (where (all p as a) a.x missing) (all p as b)) (where (all p as c) c.x is 4)",
    "left (left (all p as a) (all p as b) a.x=b.x) (all p as c) b.x=c.x",
    "left (left (all p as a) (where (all p as b) b.x is 4)) (where (all q as c) c.x is 4) b.x=c.x",
    "left (all p as a) (pair (where (all p as b) b.x missing) (all q as c)) a.x=c.x",
    "left (both (all p as a) (all q as b)) (all p as c) a.x=c.x",
    "pair (both (once (all p as a)) (all q as b)) (once (all p as c)) a.x=c.x",
    "once (pair (show (all p as a)) (both (all q as b) (all p as c)))",
    "both (both (all p as a) (once (all q as b))) (where (all q as c) c.x missing)",
    "where (left (both (all p as a) (all q as b)) (all q as c) a.x=c.x) c.x missing",
]


class DrawnTest(SeenTest):
    def drawn(self, draw):
        wide = draw.choice([1, 2, 2, 3])
        tables = model.draw_tables(draw, 2, wide)
        rules = [model.draw_rule(draw, tables) for _ in range(draw.choice([0, 1, 1, 2, 3]))]
        question = model.draw_question(draw, tables, draw.choice([1, 2, 2, 3]), 5, list("abcdefgh"))
        words = model.words_in(question)
        columns, _ = model.look(tables, question)
        if len(columns) > 4:
            question = ("show", question, draw.sample(columns, draw.randint(1, 4)))
            if "left" not in words and draw.random() < 0.4:
                question = ("once", question)
        cells = max(len(names) for name, names in tables if name in model.tables_in(question))
        room = 7 - len(model.numbers_in(question))
        return Book(tables, rules), question, min(2 * words.count("all"), max(room // cells, 1))

    def test_drawn_questions(self):
        draw = random.Random(80)
        whole = words = 0
        found = set()
        for _ in range(250):
            book, question, most = self.drawn(draw)
            words = model.words_in(question)
            if words.count("both") + words.count("left") <= 2:
                self.agrees(book, question, most)
                whole += most == 2 * words.count("all")
                found |= set(words)
        self.assertGreater(whole, 120)
        self.assertEqual(found, set(model.FORMS))


if __name__ == "__main__":
    unittest.main()
