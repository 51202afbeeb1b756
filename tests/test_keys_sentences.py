"""Point [8]: the guarantees, over drawn books and questions, up to the bounds of [2]."""

import random
import time
import unittest

import model
from keysthrough.books import Book, shown
from keysthrough.errors import BrokenRule
from keysthrough.keys import (
    alike_in_keys,
    can_answer,
    closure,
    counter,
    counter_settles,
    doubles,
    fewest_rules,
    is_key,
    least_keys,
    settles,
)
from keysthrough.stores import Store, filled


def draw_case(draw, columns=4, conditions=2):
    """A book and a question within the bounds of [2], of which some can have few answers only."""
    names = ["p", "q", "r"][: draw.choice([1, 2, 3])]
    tables = [(name, draw.sample(["a", "b", "c", "d"], draw.randint(2, columns))) for name in names]
    rules = [model.draw_rule(draw, tables) for _ in range(draw.randint(0, 5))]
    while True:
        question = model.draw_question(draw, tables, draw.randint(1, 3), 5, list("abcdefgh"))
        words = model.words_in(question)
        shows, _ = model.look(tables, question)
        if words.count("both") + words.count("left") <= 2 and shows:
            break
    if draw.random() < 0.5:
        question = ("where", question, [model.draw_condition(draw, shows) for _ in range(draw.randint(1, conditions))])
    if len(shows) > 5:
        question = ("show", question, draw.sample(shows, draw.randint(2, 5)))
    return Book(tables, rules), question


def draw_lot(draw, columns):
    return draw.sample(columns, draw.randint(0, len(columns)))


def draw_store(draw, book):
    """A store of some rows that keep the rules; few values, so that many are the same."""
    store = Store(book)
    for _ in range(10):
        name, columns = draw.choice(book.tables)
        try:
            store.put(name, tuple(draw.choice([None, 0, 1, 1, 2, -999]) for _ in columns))
        except BrokenRule:
            pass
    return store


class SentencesTest(unittest.TestCase):
    def each(self, seed, count, look):
        draw = random.Random(seed)
        for _ in range(count):
            book, question = draw_case(draw)
            with self.subTest(tables=book.tables, rules=book.rules, question=question):
                look(draw, book, question, shown(book, question))

    def test_counters_show_what_they_tell(self):
        seen = []

        def look(draw, book, question, columns):
            lot = draw_lot(draw, columns)
            column = draw.choice(columns)
            bound = 2 * model.words_in(question).count("all")
            places = [columns.index(name) for name in lot]
            for found, place in [(counter(book, question, lot), None),
                                 (counter_settles(book, question, lot, column), columns.index(column))]:
                seen.append(found is None)
                if found is not None:
                    self.assertLessEqual(len(found), bound)
                    self.assertTrue(model.shows_against(filled(book, found)(question), places, place))
            self.assertIs(is_key(book, question, lot), counter(book, question, lot) is None)
            self.assertIs(settles(book, question, lot, column), counter_settles(book, question, lot, column) is None)

        self.each(82, 500, look)
        self.assertGreater(seen.count(True), 100)
        self.assertGreater(seen.count(False), 100)

    def test_no_drawn_store_shows_otherwise(self):
        def look(draw, book, question, columns):
            for _ in range(3):
                rows = draw_store(draw, book)(question)[:12]
                for index, one in enumerate(rows):
                    self.assertIs(can_answer(book, question, 1), True)
                    for other in rows[:index]:
                        same = [name for place, name in enumerate(columns) if one[place] == other[place]]
                        self.assertIs(is_key(book, question, same), False)
                        self.assertEqual(closure(book, question, same), same)

        self.each(83, 120, look)

    def test_a_key_settles_all_and_no_row_stands_twice(self):
        def look(draw, book, question, columns):
            for lot in model.lots_of(columns):
                every = closure(book, question, lot) == columns
                self.assertIs(is_key(book, question, lot), every and not doubles(book, question))

        self.each(84, 150, look)

    def test_all_functions_tell_the_same(self):
        def look(draw, book, question, columns):
            keys = [lot for lot in model.lots_of(columns) if is_key(book, question, lot)]
            least = [lot for lot in keys if not any(set(other) < set(lot) for other in keys)]
            self.assertEqual(least_keys(book, question), least)
            self.assertIs(doubles(book, question), columns not in keys)
            self.assertIs(can_answer(book, question, 2), [] not in keys)
            self.assertIs(can_answer(book, question, 1) or not can_answer(book, question, 2), True)
            lot = draw_lot(draw, columns)
            self.assertEqual(closure(book, question, lot),
                             [column for column in columns if settles(book, question, lot, column)])

        self.each(85, 200, look)

    def test_more_columns_settle_more(self):
        def look(draw, book, question, columns):
            lot = draw_lot(draw, columns)
            more = lot + draw_lot(draw, columns)
            settled = closure(book, question, lot)
            self.assertLessEqual(set(lot), set(settled))
            self.assertLessEqual(set(settled), set(closure(book, question, more)))
            self.assertEqual(closure(book, question, settled), settled)
            self.assertIs(is_key(book, question, settled), is_key(book, question, lot))
            self.assertLessEqual(is_key(book, question, lot), is_key(book, question, more))

        self.each(86, 300, look)

    def test_show_keeps_keys_and_what_is_settled(self):
        def look(draw, book, question, columns):
            chosen = draw_lot(draw, columns)
            lot = draw_lot(draw, chosen)
            asked = ("show", question, chosen)
            self.assertIs(is_key(book, asked, lot), is_key(book, question, lot))
            settled = closure(book, question, lot)
            self.assertEqual(closure(book, asked, lot), [column for column in chosen if column in settled])
            self.assertEqual(counter_length(counter(book, asked, lot)), counter_length(counter(book, question, lot)))

        self.each(87, 300, look)

    def test_once_keeps_what_is_settled(self):
        seen = []

        def look(draw, book, question, columns):
            if "left" in model.words_in(question):
                return
            lot = draw_lot(draw, columns)
            asked = ("once", question)
            self.assertEqual(closure(book, asked, lot), closure(book, question, lot))
            self.assertIs(doubles(book, asked), False)
            self.assertIs(is_key(book, asked, lot), closure(book, question, lot) == columns)
            self.assertIs(can_answer(book, asked, 1), can_answer(book, question, 1))
            seen.append(doubles(book, question))

        self.each(88, 400, look)
        self.assertGreater(seen.count(True), 50)

    def test_with_more_rules_keys_stay(self):
        def look(draw, book, question, columns):
            lot = draw_lot(draw, columns)
            more = book.with_rules([model.draw_rule(draw, book.tables)])
            self.assertLessEqual(is_key(book, question, lot), is_key(more, question, lot))
            self.assertLessEqual(set(closure(book, question, lot)), set(closure(more, question, lot)))
            self.assertLessEqual(doubles(more, question), doubles(book, question))
            for number in (1, 2):
                self.assertLessEqual(can_answer(more, question, number), can_answer(book, question, number))

        self.each(89, 300, look)

    def test_with_where_around_keys_stay(self):
        def look(draw, book, question, columns):
            lot = draw_lot(draw, columns)
            chosen = ("where", question, [model.draw_condition(draw, columns) for _ in range(draw.randint(0, 2))])
            self.assertLessEqual(is_key(book, question, lot), is_key(book, chosen, lot))
            self.assertLessEqual(set(closure(book, question, lot)), set(closure(book, chosen, lot)))
            self.assertIs(alike_in_keys(book, question, ("where", question, [])), True)

        self.each(90, 300, look)

    def test_fewest_rules_by_trying_all_sets(self):
        sizes = set()

        def look(draw, book, question, columns):
            lot = draw_lot(draw, columns)
            offered = [model.draw_rule(draw, book.tables) for _ in range(draw.randint(0, 4))]
            enough = [chosen for chosen in model.lots_of(range(len(offered)))
                      if is_key(book.with_rules([offered[index] for index in chosen]), question, lot)]
            found = fewest_rules(book, question, lot, offered)
            self.assertEqual(found, [chosen for chosen in enough if not any(set(one) < set(chosen) for one in enough)])
            sizes.update(len(chosen) for chosen in found)

        self.each(91, 250, look)
        self.assertGreaterEqual(sizes, {0, 1, 2})

    def test_alike_in_keys(self):
        alike = []

        def look(draw, book, question, columns):
            turned = ("show", question, draw.sample(columns, len(columns)))
            places = [[columns.index(name) for name in lot] for lot in least_keys(book, question)]
            others = [[shown(book, turned).index(name) for name in lot] for lot in least_keys(book, turned)]
            alike.append(alike_in_keys(book, question, turned))
            self.assertIs(alike[-1], places == others)

        self.each(92, 300, look)
        self.assertGreater(alike.count(False), 10)


def counter_length(found):
    return None if found is None else len(found)


class BoundsTest(unittest.TestCase):
    def draw_great(self, draw):
        """A book of three tables of four columns and five rules, a question with three tables and five columns."""
        tables = [(name, ["id", "of", "town", "a"]) for name in ("p", "q", "r")]
        some = draw.choice([tables, tables[:2], tables[:1]])
        rules = [model.draw_rule(draw, some) for _ in range(5)]
        while True:
            question = model.draw_question(draw, some, 3, 3, list("abcdefgh"))
            words = model.words_in(question)
            columns, _ = model.look(tables, question)
            if words.count("all") == 3 and words.count("both") + words.count("left") == 2 and len(columns) >= 5:
                break
        conditions = [("missing", draw.choice(columns)), ("same", *draw.sample(columns, 2)),
                      ("is", draw.choice(columns), draw.choice([-999, 999]))]
        question = ("where", question, draw.sample(conditions, draw.randint(0, 2)))
        return Book(tables, rules), ("show", question, draw.sample(columns, 5)), some

    def test_hundreds_of_calls(self):
        draw = random.Random(93)
        start = time.process_time()
        for _ in range(60):
            book, question, tables = self.draw_great(draw)
            columns = shown(book, question)
            offered = [model.draw_rule(draw, tables) for _ in range(5)]
            lot = draw_lot(draw, columns)
            for found in [counter(book, question, lot), counter(book, question, columns),
                          *[counter_settles(book, question, lot, column) for column in columns]]:
                self.assertTrue(found is None or len(found) <= 6)
            keys = least_keys(book, question)
            self.assertTrue(all(is_key(book, question, key) for key in keys))
            self.assertIs(doubles(book, question), keys == [])
            self.assertIs(alike_in_keys(book, question, question), True)
            for chosen in fewest_rules(book, question, lot, offered):
                self.assertIs(is_key(book.with_rules([offered[index] for index in chosen]), question, lot), True)
        self.assertLess(time.process_time() - start, 100)

    def test_many_joined_rows_of_one_table(self):
        book = Book([("p", ["id", "of", "town", "a"])], [("settles", "p", ["of", "town"], "a")])
        one, two, three = [("all", "p", short) for short in "abc"]
        pairs = [("a.id", "b.of"), ("a.of", "b.town"), ("a.town", "b.id")]
        third = [("b.id", "c.of"), ("b.of", "c.id"), ("b.a", "c.a")]
        shows = ["a.id", "b.id", "c.id", "c.a", "b.town"]
        for word in ("pair", "left"):
            for other in ("pair", "left"):
                question = ("show", (other, (word, one, two, pairs), three, third), shows)
                self.assertEqual(least_keys(book, question), [])
                found = counter(book, question, shows)
                self.assertTrue(model.shows_against(filled(book, found)(question), range(5)))
                keyed = book.with_rules([("key", "p", ["id"])])
                self.assertEqual(least_keys(keyed, question)[0][0], "a.id")

    def test_twenty_four_brackets(self):
        book = Book([("p", ["id", "town"])], [("key", "p", ["id"])])
        question = ("all", "p", "a")
        for index in range(24):
            question = [("once", question), ("where", question, []), ("show", question, ["a.town", "a.id"])][index % 3]
        self.assertEqual(least_keys(book, question), [["a.id"]])
        self.assertEqual(len(counter(book, question, ["a.town"])), 2)

    def test_the_greatest_values(self):
        book = Book([("p", ["id", "town"])], [("settles", "p", ["town"], "id")])
        for value in [-999, -1, 0, 1, 2, 999]:
            question = ("where", ("all", "p", "a"), [("is", "a.id", value)])
            found = counter(book, question, ["a.town"])
            self.assertEqual([row[0] for _, row in found], [value, value])
            self.assertIsNone(counter_settles(book, question, ["a.town"], "a.id"))
            self.assertEqual(len(counter_settles(book, question, [], "a.town")), 2)


if __name__ == "__main__":
    unittest.main()
