"""What DOC.md says, written down once more, slowly and plainly, to compare with.

Books stand here as lists of tables and rules, and an error as a tuple (name of its class, value). Of keys, and of what
is settled, this model knows what it sees in all small stores, which it asks one by one.
"""

import itertools
import string

from keysthrough.errors import BrokenRule
from keysthrough.stores import Store

FORMS = {
    "all": ["text", "text"],
    "pair": ["part", "part", "list"],
    "left": ["part", "part", "list"],
    "where": ["part", "list"],
    "show": ["part", "list"],
    "both": ["part", "part"],
    "once": ["part"],
}


def lists_in(value):
    """All lists in a value, each as often as it stands there."""
    found = [value] if isinstance(value, list) else []
    if isinstance(value, (list, tuple)):
        for thing in value:
            found += lists_in(thing)
    return found


def parts_in(question):
    """A question and all of its parts, however deep."""
    found = [question]
    for kind, thing in zip(FORMS[question[0]], question[1:]):
        if kind == "part":
            found += parts_in(thing)
    return found


def words_in(question):
    return [part[0] for part in parts_in(question)]


def is_name(text):
    return len(text) in range(1, 9) and set(text) <= set(string.ascii_lowercase)


def look(tables, question):
    """A tuple (columns, error), one of which is None."""
    if question == () or question[0] not in FORMS or len(question) - 1 != len(FORMS[question[0]]):
        return None, ("InvalidQuestion", question)
    shows = []
    for kind, thing in zip(FORMS[question[0]], question[1:]):
        if kind == "part":
            columns, error = look(tables, thing)
            if error is not None:
                return None, error
            shows.append(columns)
    columns, error = LOOKS[question[0]](tables, question, *shows)
    if error is not None:
        return None, error
    for place, name in enumerate(columns):
        if name in columns[:place]:
            return None, ("DoubleName", name)
    if is_unsound(question, shows):
        return None, ("InvalidQuestion", question)
    return columns, None


def is_unsound(question, shows):
    if question[0] == "both":
        return len(shows[0]) != len(shows[1])
    if question[0] == "left":
        return "left" in words_in(question[2]) or "both" in words_in(question[2])
    if question[0] == "pair":
        return "left" in words_in(question[2])
    return question[0] == "once" and "left" in words_in(question)


def look_all(tables, question):
    _, table, short = question
    if not is_name(short):
        return None, ("InvalidName", short)
    for name, columns in tables:
        if name == table:
            return [short + "." + column for column in columns], None
    return None, ("UnknownTable", table)


def look_pair(tables, question, one, other):
    for own, others in question[3]:
        if own not in one:
            return None, ("UnknownColumn", own)
        if others not in other:
            return None, ("UnknownColumn", others)
    return one + other, None


def look_where(tables, question, one):
    for condition in question[2]:
        told = condition[1:2] if condition[0] == "is" else condition[1:]
        for name in told:
            if name not in one:
                return None, ("UnknownColumn", name)
    return one, None


def look_show(tables, question, one):
    for name in question[2]:
        if name not in one:
            return None, ("UnknownColumn", name)
    return list(question[2]), None


def look_both(tables, question, one, other):
    return one, None


def look_once(tables, question, one):
    return one, None


LOOKS = {
    "all": look_all,
    "pair": look_pair,
    "left": look_pair,
    "where": look_where,
    "show": look_show,
    "both": look_both,
    "once": look_once,
}


def answer(tables, rows, question):
    """The rows of a sound question; `rows` has the rows of each table by its name."""
    word = question[0]
    if word == "all":
        return list(rows[question[1]])
    names, _ = look(tables, question[1])
    one = answer(tables, rows, question[1])
    if word == "where":
        return [row for row in one if all(meets(dict(zip(names, row)), told) for told in question[2])]
    if word == "show":
        return [tuple(dict(zip(names, row))[name] for name in question[2]) for row in one]
    if word == "once":
        return [row for place, row in enumerate(one) if row not in one[:place]]
    other_names, _ = look(tables, question[2])
    other = answer(tables, rows, question[2])
    if word == "both":
        return one + other
    out = []
    for row in one:
        cells = dict(zip(names, row))
        found = [mate for mate in other if fits(cells, dict(zip(other_names, mate)), question[3])]
        if word == "left" and found == []:
            found = [tuple(None for _ in other_names)]
        out += [row + mate for mate in found]
    return out


def meets(cells, told):
    if told[0] == "is":
        return cells[told[1]] is not None and cells[told[1]] == told[2]
    if told[0] == "missing":
        return cells[told[1]] is None
    return cells[told[1]] is not None and cells[told[2]] is not None and cells[told[1]] == cells[told[2]]


def fits(cells, other_cells, pairs):
    for own, others in pairs:
        if cells[own] is None or other_cells[others] is None or cells[own] != other_cells[others]:
            return False
    return True


def keeps(tables, rows, rule):
    """Whether a rule holds for the rows of its table."""
    names = dict(tables)[rule[1]]
    cells = [dict(zip(names, row)) for row in rows[rule[1]]]
    for place, late in enumerate(cells):
        for early in cells[:place]:
            if all(early[name] == late[name] for name in rule[2]):
                if rule[0] == "key" or early[rule[3]] != late[rule[3]]:
                    return False
    return True


def first_broken(tables, rules, rows):
    """The index of the first rule that does not hold, or None."""
    for index, rule in enumerate(rules):
        if not keeps(tables, rows, rule):
            return index
    return None


# What all small stores show. Other values than the missing one and those that a question names are taken as they
# come: which ones they are does not count, only which of them are the same.

FRESH = 101


class Seen:
    """What the stores of a book with at most so many rows answer."""

    def __init__(self, book, question, most):
        self.most = most
        # For each lot of places at which some two rows of an answer are the same, the least number of rows of a store.
        self.alike = {}
        # The least number of rows of a store that answers with a row at all.
        self.answering = None
        self.stores = 0
        self._book = book
        self._question = question
        self._values = [None, *numbers_in(question)]
        self._names = [name for name, _ in book.tables if name in tables_in(question)]
        self._grow(Store(book), [], FRESH)

    def _grow(self, store, last, fresh):
        self._look(store)
        if len(store) == self.most:
            return
        for index, name in enumerate(self._names):
            for row, more in self._rows(len(self._book[name]), fresh):
                # The rows of a table may be told in any order: those are enough that do not descend. If two rows next
                # to one another descend, the store is also told with these the other way round, and told as less.
                place = [index, [(value is not None, value) for value in row]]
                if place < last:
                    continue
                try:
                    store.put(name, row)
                except BrokenRule:
                    continue
                self._grow(store, place, more)
                store.undo()

    def _rows(self, count, fresh):
        """All rows with so many values, each with the first value that is still free behind it."""
        if count == 0:
            return [((), fresh)]
        found = []
        for value in [*self._values, *range(FRESH, fresh + 1)]:
            behind = fresh + 1 if value == fresh else fresh
            found += [((value, *row), more) for row, more in self._rows(count - 1, behind)]
        return found

    def _look(self, store):
        self.stores += 1
        rows = store(self._question)
        if rows and (self.answering is None or self.answering > len(store)):
            self.answering = len(store)
        for one, other in itertools.combinations(rows, 2):
            same = frozenset(place for place in range(len(one)) if one[place] == other[place])
            self.alike[same] = min(self.alike.get(same, self.most), len(store))

    def against(self, places, settled=None):
        """The least number of rows of a store that shows that a lot of places is no key, or does not settle a place."""
        found = [count for same, count in self.alike.items() if same >= set(places) and settled not in same]
        return min(found, default=None)


def numbers_in(question):
    """The numbers that the conditions in a question name."""
    told = [condition for part in parts_in(question) if part[0] == "where" for condition in part[2]]
    return sorted({condition[2] for condition in told if condition[0] == "is"})


def tables_in(question):
    return {part[1] for part in parts_in(question) if part[0] == "all"}


def lots_of(columns):
    """All lots of columns, in the order of DOC.md."""
    return [list(lot) for count in range(len(columns) + 1) for lot in itertools.combinations(columns, count)]


def shows_against(rows, places, settled=None):
    """Whether two rows of an answer are the same at some places, and differ, if a place is told, there."""
    for one, other in itertools.combinations(rows, 2):
        if all(one[place] == other[place] for place in places):
            if settled is None or one[settled] != other[settled]:
                return True
    return False


# What is drawn: `draw` is a random.Random with a fixed seed.


def draw_tables(draw, most_tables, most_columns):
    names = draw.sample(["p", "q", "town", "abcdefgh", "z", "id"], draw.randint(1, most_tables))
    words = ["id", "of", "town", "a", "b", "c", "name", "abcdefgh"]
    return [(name, draw.sample(words, draw.randint(1, most_columns))) for name in names]


def draw_rule(draw, tables):
    table, columns = draw.choice(tables)
    told = [draw.choice(columns) for _ in range(draw.choice([0, 1, 1, 2, 2, 3]))]
    if draw.random() < 0.5:
        return ("key", table, told)
    return ("settles", table, told, draw.choice(columns))


def draw_value(draw):
    return draw.choice([None, None, 0, 1, 1, 2, 2, 3, -1, -999, 999])


def draw_row(draw, columns):
    return tuple(draw_value(draw) for _ in columns)


def draw_question(draw, tables, leaves, deep, shorts, barred=()):
    """A sound question with at most so many tables; its short names are taken from the list `shorts`."""
    if deep == 0 or (leaves == 1 and draw.random() < 0.4):
        return ("all", draw.choice(tables)[0], shorts.pop(0))
    if leaves > 1 and draw.random() < 0.75:
        return draw_of_two(draw, tables, leaves, deep, shorts, barred)
    word = draw.choice(["where", "where", "show", "once"])
    barred = (*barred, "left") if word == "once" else barred
    one = draw_question(draw, tables, leaves, deep - 1, shorts, barred)
    columns, _ = look(tables, one)
    if word == "once":
        return ("once", one)
    if word == "show":
        return ("show", one, draw.sample(columns, draw.randint(0, len(columns))))
    return ("where", one, [draw_condition(draw, columns) for _ in range(draw.choice([0, 1, 1, 2]) if columns else 0)])


def draw_of_two(draw, tables, leaves, deep, shorts, barred):
    word = draw.choice([word for word in ("pair", "pair", "left", "left", "both") if word not in barred])
    inside = {"pair": (*barred, "left"), "left": (*barred, "left", "both"), "both": barred}[word]
    part = draw.randint(1, leaves - 1)
    one = draw_question(draw, tables, part, deep - 1, shorts, barred)
    other = draw_question(draw, tables, leaves - part, deep - 1, shorts, inside)
    columns, _ = look(tables, one)
    others, _ = look(tables, other)
    if word == "both":
        many = min(len(columns), len(others))
        return ("both", cut(draw, one, columns, many), cut(draw, other, others, many))
    many = draw.choice([0, 1, 1, 1, 2]) if columns and others else 0
    return (word, one, other, [(draw.choice(columns), draw.choice(others)) for _ in range(many)])


def cut(draw, question, columns, many):
    """The question, brought to so many columns."""
    return question if len(columns) == many else ("show", question, draw.sample(columns, many))


def draw_condition(draw, columns):
    word = draw.choice(["is", "missing", "same"])
    if word == "is":
        return ("is", draw.choice(columns), draw.choice([0, 1, 2, 3, -1, -999, 999]))
    if word == "missing":
        return ("missing", draw.choice(columns))
    return ("same", draw.choice(columns), draw.choice(columns))


def spoilt(draw, question):
    """A question that differs from this one in one place, such that it may be none any longer."""
    kinds = FORMS[question[0]]
    inner = [place for place, kind in enumerate(kinds) if kind == "part"]
    if inner and draw.random() < 0.6:
        place = draw.choice(inner) + 1
        return (*question[:place], spoilt(draw, question[place]), *question[place + 1:])
    way = draw.randrange(7)
    if way == 0:
        return question[:-1]
    if way == 1:
        return (*question, [])
    if way == 2:
        return (draw.choice(["every", "Pair", "", "one ~ {"]), *question[1:])
    if way == 3:
        return draw.choice([(), ("all", "nope", "a"), ("all", "p", "A"), ("all", "nope", "abcdefghi")])
    if way == 4 and question[0] == "all":
        return (*question[:2], draw.choice(["", "a.b", "a", "b", "a1", " a"]))
    if way in (5, 6) and len(inner) == 2:
        return (draw.choice(["pair", "left"]), *question[1:3], [])
    return spoilt_list(draw, question, len(inner))


def spoilt_list(draw, question, parts):
    if kind_of_last(question) != "list":
        return ("once", ("left", question, ("all", "p", "lone"), []))
    told = list(question[-1])
    if question[0] == "show":
        told += draw.choice([["a.nope"], told, told[::-1], ["no", *told[:1]]])
        draw.shuffle(told)
    elif question[0] == "where":
        told.insert(0, draw.choice([("is", "no", 1), ("missing", "no"), ("same", "no", "non"), ("same", "a.id", "no")]))
    else:
        told += draw.choice([[("no", "none")], [("a.id", "b.id")], [("b.id", "a.id")], [("a.nope", "b.id")]])
    return (*question[:-1], told)


def kind_of_last(question):
    return FORMS[question[0]][-1]
