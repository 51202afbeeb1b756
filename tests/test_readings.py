"""Points [2], [3] and the interface of readings.py: texts that are read, and those that are none."""

import random
import unittest

import model
from keysthrough.books import Book
from keysthrough.errors import KeyTellError, Unreadable
from keysthrough.readings import read_book, read_question
from keysthrough.texts import show_book, show_question

SIGNS = " (),.;=>-_*[]{}~'\"!+/:<?@\\^`|#$&" + "abcxyzAZ0123456789"
BOOKS = [
    "",
    "table p id",
    "table p id town; table q of; key p id; settles p town > id; key q; settles q > of",
    "table table key; key table key",
]
QUESTIONS = [
    "all p as a",
    "pair (all p as a) (all q as b) a.id=b.of a.x=b.y",
    "left (all p as a) (all q as b)",
    "where (all p as a) a.id is -40, a.of missing, a.id same a.of",
    "where (all p as a) a.id is 0",
    "show (where (all p as a)) a.id a.of",
    "both (once (all p as a)) (show (all q as b))",
]


class ReadingTest(unittest.TestCase):
    def unreadable(self, read, text):
        with self.subTest(text=text):
            with self.assertRaises(KeyTellError) as held:
                read(text)
            self.assertIs(type(held.exception), Unreadable)
            self.assertEqual(held.exception.value, text)

    def all_unreadable(self, read, texts):
        for text in texts:
            self.unreadable(read, text)


class BookReadingTest(ReadingTest):
    def test_what_is_read(self):
        book = read_book("table p id town; key p id; settles p > town")
        self.assertIs(type(book), Book)
        self.assertEqual(book, Book([("p", ["id", "town"])], [("key", "p", ["id"]), ("settles", "p", [], "town")]))
        self.assertEqual(book, read_book(text="table p id town; key p id; settles p > town"))
        self.assertEqual(read_book(""), Book([], []))
        self.assertEqual(read_book("table p id").tables, [("p", ["id"])])

    def test_what_is_read_is_new(self):
        one, other = read_book(BOOKS[2]), read_book(BOOKS[2])
        self.assertEqual(one, other)
        one.tables[0][1].append("more")
        self.assertEqual(one, other)

    def test_tables(self):
        self.all_unreadable(read_book, ["table", "table ", "table p", "table p ", "tables p id", "Table p id", "p id",
                                        "table P id", "table p Id", "table p i1", "table p i.d", "table p (id)",
                                        "table abcdefghi id", "table p abcdefghi", "table p id,town", " ", "  "])

    def test_blanks_and_semicolons(self):
        self.all_unreadable(read_book, [" table p id", "table  p id", "table p  id", "table p id ", "table p id;",
                                        "table p id; ", "; table p id", "table p id;table q id",
                                        "table p id ; table q id",
                                        "table p id;  table q id", "table p id; ; table q id", "table p id, table q id",
                                        ";", "; ", "table p id\ttown", "table p id\n"])

    def test_rules(self):
        head = "table p id of; table q of; "
        self.all_unreadable(read_book, [head + rule for rule in [
            "key", "key ", "key r", "key p no", "key p id ", "keys p id", "Key p id", "key p id > of", "key p > of",
            "key  p", "settles", "settles p", "settles p id", "settles p id of", "settles p >", "settles p > ",
            "settles p > no", "settles p no > id", "settles p id > of id", "settles p id > > of", "settles > id",
            "settles r > id", "settles q id > of", "settles p id>of", "settles p  > of", "settles p > of >",
            "settles p id > of ", "settles p id >  of", "settles p = of", "settles q >", "id", "", ">", "of > id",
        ]])

    def test_tables_ahead_of_rules(self):
        self.all_unreadable(read_book, ["key p id", "key p id; table p id", "table p id; key p id; table q id",
                                        "table p id; key q id; table q id", "table p id; settles p > id; table q id"])

    def test_books_that_are_none(self):
        self.all_unreadable(read_book, ["table p id; table p id", "table p id id", "table p id; key q id",
                                        "table p id of; table q x; table p y"])

    def test_the_texts_of_questions(self):
        self.all_unreadable(read_book, QUESTIONS)


class QuestionReadingTest(ReadingTest):
    def test_what_is_read(self):
        question = read_question("where (left (all p as a) (all q as b) a.id=b.of) a.id is -4, b.of missing")
        self.assertEqual(question, ("where", ("left", ("all", "p", "a"), ("all", "q", "b"), [("a.id", "b.of")]),
                                    [("is", "a.id", -4), ("missing", "b.of")]))
        self.assertEqual([type(thing) for thing in question], [str, tuple, list])
        self.assertEqual({type(thing) for thing in [question[1][3][0], *question[2]]}, {tuple})
        self.assertIs(type(question[2][0][2]), int)
        self.assertEqual(read_question(text="all p as a"), ("all", "p", "a"))

    def test_what_is_read_is_new(self):
        one, other = read_question(QUESTIONS[1]), read_question(QUESTIONS[1])
        self.assertEqual(one, other)
        one[3].append(("a.x", "b.x"))
        self.assertNotEqual(one, other)
        self.assertEqual(other, read_question(QUESTIONS[1]))

    def test_all(self):
        self.all_unreadable(read_question, ["", " ", "all", "all p", "all p as", "all p as ", "all p a", "all p is a",
                                            "all p as a b", "all  p as a", "all p  as a", "all p as a ", " all p as a",
                                            "All p as a", "all p as A", "all P as a", "all p1 as a", "all p as a.id",
                                            "all abcdefghi as a", "all p as abcdefghi", "all as a", "all  as a",
                                            "(all p as a)", "all (p) as a", "all p as a)", "all p as a,",
                                            "every p as a"])

    def test_brackets(self):
        a = "(all p as a)"
        self.all_unreadable(read_question, [
            "once", "once ", "once all p as a", "once  " + a, "once" + a, "once (" + a + ")", "once ()",
            "once ( all p as a)",
            "once (all p as a )", "once (all p as a", "once all p as a)", "once " + a + ")", "once " + a + " ",
            "once " + a + " a.id", "once " + a + a, "once " + a + " " + a, "once [all p as a]", "Once " + a,
            "both " + a, "both " + a + a, "both " + a + "  " + a, "both " + a + " " + a + " " + a,
            "both " + a + " " + a + " ",
            "both " + a + ", " + a, "both" + a + " " + a, "both " + a + " " + a + " a.id", "both " + a + " all p as a",
            "both (all p as a (all p as b)", "both (all p as a)) (all p as b)", "both " + a + " ()",
            "both (" + a + ") " + a,
            "pair " + a, "pair " + a + " a.id=b.id", "pair " + a + " " + a + ")", "left " + a + " (once " + a,
            "left (" + a + " " + a + ")", "where ", "where", "where () a.id missing", "show", "show a.id",
            "show () a.id",
            ")" + a + "(", "once )all p as a(", "both )all p as a( (all p as b)", "once (once (all p as a)",
        ])

    def test_pairs(self):
        for word in ["pair", "left"]:
            head = word + " (all p as a) (all q as b)"
            self.all_unreadable(read_question, [head + tail for tail in [
                " ", "a.id=b.id", "  a.id=b.id", " a.id=b.id ", " a.id = b.id", " a.id= b.id", " a.id", " a.id=",
                " =b.id",
                " =", " a.id=b.id=b.id", " a.id==b.id", " a.id=b.id, a.x=b.x", " a.id=b.id,a.x=b.x",
                " a.id=b.id  a.x=b.x",
                " id=of", " a.id=of", " id=b.of", " a.id=b.id.x", " a.id=b.", " a.id=.id", " A.id=b.id", " a.id=b.i1",
                " a.abcdefghi=b.id", " a.id=abcdefghi.id", " (a.id=b.id)", " a.id-b.id", " a.id same b.id", " a.id=4",
            ]])

    def test_conditions(self):
        head = "where (all p as a)"
        self.all_unreadable(read_question, [head + tail for tail in [
            " ", ",", ", a.id missing", " a.id missing,", " a.id missing, ", " a.id missing,a.of missing",
            " a.id missing , a.of missing", " a.id missing,  a.of missing", " a.id missing a.of missing",
            "a.id missing",
            "  a.id missing", " a.id  missing", " a.id missing ", " a.id", " missing", " a.id Missing", " id missing",
            " a.id missing 4", " a.id missing a.of", " a.id is missing", " a.id is None", " a.id is", " a.id is ",
            " a.id is a.of", " id is 4", " a.id is  4", " a.id is 4 ", " a.id is 4 5", " a.id are 4", " 4 is a.id",
            " a.id same", " a.id same ", " a.id same 4", " a.id same of", " id same a.of", " a.id same a.of a.x",
            " a.id = a.of", " a.id=a.of", " (a.id missing)", " a.id not 4", " a.id is 4; a.of is 4", " .id is 4",
            " a. is 4",
        ]])

    def test_integers(self):
        for text in ["00", "01", "007", "0000", "0001", "-0", "-00", "-01", "-007", "12345", "10000", "-12345", "99999",
                     "+4", "--4", "4-", "-", "- 4", "4.0", "4,", "1e3", "0x1", "1_0", "1 000", "four", "", "4)", "(4)",
                     "123456789", "0-1", "4.", "True"]:
            self.unreadable(read_question, "where (all p as a) a.id is " + text)
            self.unreadable(read_question, "where (all p as a) a.of missing, a.id is " + text + ", a.id missing")
        for value in [0, 1, -1, 9, 10, 99, -99, 100, 999, 1000, -1000, 9999, -9999]:
            self.assertEqual(read_question(f"where (all p as a) a.id is {value}"),
                             ("where", ("all", "p", "a"), [("is", "a.id", value)]))

    def test_columns(self):
        head = "show (all p as a)"
        self.all_unreadable(read_question, [head + tail for tail in [
            " ", "a.id", "  a.id", " a.id ", " a.id  a.of", " a.id, a.of", " a.id,a.of", " id", " a", " a.", " .id",
            " .",
            " a..id", " a.id.of", " a.Id", " A.id", " a.id1", " a1.id", " abcdefghi.id", " a.abcdefghi", " a.id is 4",
            " a.id=a.of", " (a.id)", " a.id)", " a.id missing x",
        ]])
        self.assertEqual(read_question(head + " abcdefgh.abcdefgh missing.is")[2], ["abcdefgh.abcdefgh", "missing.is"])

    def test_the_error_of_a_part_holds_the_whole_text(self):
        self.all_unreadable(read_question, ["both (once (show (all p as a) id)) (all q as b)",
                                            "both (all q as b) (once (where (all p as a) a.id is 00))",
                                            "pair (pair (all p as a) (all q as B) a.id=b.id) (all r as c)"])

    def test_the_texts_of_books(self):
        self.all_unreadable(read_question, BOOKS)

    def test_many_brackets(self):
        for depth in range(33):
            self.assertEqual(read_question("once (" * min(depth, 24) + "all p as a" + ")" * min(depth, 24))[0],
                             "once" if depth else "all")
            self.unreadable(read_question, "once (" * depth + "all p as" + ")" * depth)
            self.unreadable(read_question, "once (" * depth + "all p as a" + ")" * (depth + 1))
            self.unreadable(read_question, "both (" * (depth + 1) + "all p as a" + ")" * (depth + 1))
            self.unreadable(read_question, "once (" * (depth + 1) + "all p as a" + ")" * depth)
        self.unreadable(read_question, "both (all p as a) " * 100)
        self.unreadable(read_question, ")" * 3000)
        self.unreadable(read_question, "(" * 32)
        self.unreadable(read_question, " " * 3000)


class SpoiltTest(ReadingTest):
    def reads_what_is_shown(self, read, show, text):
        """A text is read only if what is read shows just it."""
        try:
            found = read(text)
        except KeyTellError as error:
            self.assertIs(type(error), Unreadable)
            self.assertEqual(error.value, text)
            return 0
        self.assertEqual(show(found), text)
        return 1

    def spoilt(self, text):
        """All texts that differ from this one by one sign that is left out, put in or changed."""
        for at in range(len(text) + 1):
            yield text[:at] + text[at + 1:]
            for sign in SIGNS:
                yield text[:at] + sign + text[at:]
                yield text[:at] + sign + text[at + 1:]

    def test_texts_that_differ_by_one_sign(self):
        for texts, read, show in [(BOOKS, read_book, show_book), (QUESTIONS, read_question, show_question)]:
            for text in texts:
                self.assertEqual(self.reads_what_is_shown(read, show, text), 1)
                many = [self.reads_what_is_shown(read, show, spoilt) for spoilt in self.spoilt(text)]
                self.assertGreater(many.count(0), len(many) // 3)

    def test_drawn_texts(self):
        draw = random.Random(96)
        read = 0
        for _ in range(3000):
            tables = model.draw_tables(draw, 3, 4)
            question = model.draw_question(draw, tables, draw.randint(1, 4), 5, list("abcdefgh"))
            rules = [model.draw_rule(draw, tables) for _ in range(3)]
            for text, call, show in [(show_question(question), read_question, show_question),
                                     (show_book(Book(tables, rules)), read_book, show_book)]:
                words = text.split(" ")
                at = draw.randrange(len(words))
                way = draw.randrange(3)
                if way == 0:
                    words.pop(at)
                elif way == 1:
                    words.insert(at, draw.choice(words))
                else:
                    words[at] = draw.choice([*words, "(all", "p)", "4,", "05", "-0", ">", "a.b=c.d", "once", "key"])
                read += self.reads_what_is_shown(call, show, " ".join(words))
        self.assertGreater(read, 300)

    def test_questions_are_not_read_by_their_names(self):
        """A question of other names than those of one to eight letters is shown, but not read."""
        for question in [("all", "p", "ab1"), ("all", "", "a"), ("show", ("all", "p", "a"), ["id"]),
                         ("show", ("all", "p", "a"), ["a.b.c"]), ("where", ("all", "p", "a"), [("is", "a.id", 12345)])]:
            self.unreadable(read_question, show_question(question))


if __name__ == "__main__":
    unittest.main()
