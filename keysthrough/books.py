"""Books of tables and rules, and the columns that a question over a book shows."""

from keysthrough.errors import DoubleName, InvalidName, InvalidQuestion, InvalidRule, UnknownColumn, UnknownTable

LONGEST_NAME = 8
RULE_FORMS = (("key", 3), ("settles", 4))
QUESTION_FORMS = (("all", 3), ("pair", 4), ("left", 4), ("where", 3), ("show", 3), ("both", 3), ("once", 2))
PART_COUNTS = {"all": 0, "pair": 2, "left": 2, "where": 1, "show": 1, "both": 2, "once": 1}


class Book:
    """Tables with their columns, and rules over them; a book never changes."""

    def __init__(self, tables, rules):
        check_tables(tables)
        self._tables = copied(tables)
        for rule in rules:
            check_rule(self, rule)
        self._rules = copied(rules)

    @property
    def tables(self):
        """The tuples (name, columns) of the tables, in order."""
        return copied(self._tables)

    @property
    def rules(self):
        """The rules, in order."""
        return copied(self._rules)

    def __len__(self):
        return len(self._tables)

    def __getitem__(self, name):
        for table, columns in self._tables:
            if table == name:
                return list(columns)
        raise UnknownTable(name)

    def __iter__(self):
        # Without this, Python would iterate by book[0], book[1] and so on.
        raise TypeError("a book is not iterated over")

    def __eq__(self, other):
        return isinstance(other, Book) and self._tables == other._tables and self._rules == other._rules

    def with_rules(self, more):
        """Return the book with some rules more, behind its own."""
        return Book(self._tables, self._rules + list(more))

    def without(self, index):
        """Return the book without the rule at an index."""
        if not 0 <= index < len(self._rules):
            raise InvalidRule(index)
        return Book(self._tables, self._rules[:index] + self._rules[index + 1:])


def shown(book, question):
    """Return the columns that a question shows, or raise the first error of the question."""
    if not has_form(question, QUESTION_FORMS):
        raise InvalidQuestion(copied(question))
    if question[0] == "all":
        return shown_by_all(book, question[1], question[2])
    part_columns = [shown(book, part) for part in parts_of(question)]
    for name, known in named_columns(question, part_columns):
        if name not in known:
            raise UnknownColumn(name)
    columns = columns_over(question, part_columns)
    check_unlike(columns)
    if not is_sound(question, part_columns):
        raise InvalidQuestion(copied(question))
    return columns


def shown_by_all(book, table, short):
    """Return the columns of a table as shown under a short name."""
    if not is_name(short):
        raise InvalidName(short)
    return [f"{short}.{column}" for column in book[table]]


def parts_of(question):
    """Return the questions directly within a question."""
    return list(question[1:1 + PART_COUNTS[question[0]]])


def named_columns(question, part_columns):
    """Return each column that a question itself names, with the columns of the part that must show it."""
    word = question[0]
    if word in ("pair", "left"):
        one, other = part_columns
        return [named for pair in question[3] for named in ((pair[0], one), (pair[1], other))]
    if word == "where":
        return [(name, part_columns[0]) for condition in question[2] for name in columns_of_condition(condition)]
    if word == "show":
        return [(name, part_columns[0]) for name in question[2]]
    return []


def columns_of_condition(condition):
    """Return the columns that a condition names."""
    if condition[0] == "same":
        return [condition[1], condition[2]]
    return [condition[1]]


def columns_over(question, part_columns):
    """Return the columns that a question shows over parts that show these ones."""
    word = question[0]
    if word in ("pair", "left"):
        return part_columns[0] + part_columns[1]
    if word == "show":
        return list(question[2])
    return part_columns[0]


def is_sound(question, part_columns):
    """Tell whether a question is sound whose parts are, and whose columns are known and unlike."""
    word = question[0]
    if word == "both":
        return len(part_columns[0]) == len(part_columns[1])
    if word == "left":
        return not holds(question[2], ("left", "both"))
    if word == "pair":
        return not holds(question[2], ("left",))
    if word == "once":
        return not holds(question[1], ("left",))
    return True


def holds(question, words):
    """Tell whether a question, or a part of it however deep, begins with one of these words."""
    return question[0] in words or any([holds(part, words) for part in parts_of(question)])


def check_tables(tables):
    """Raise the first error in the names of tables and columns."""
    names = []
    for name, columns in tables:
        check_name(name, names)
        names.append(name)
        check_columns(columns)


def check_columns(columns):
    """Raise the first error in the names of the columns of one table."""
    before = []
    for column in columns:
        check_name(column, before)
        before.append(column)


def check_name(name, before):
    """Raise an error if a name is none, or stands among the names before it."""
    if not is_name(name):
        raise InvalidName(name)
    if name in before:
        raise DoubleName(name)


def check_rule(book, rule):
    """Raise the first error in a rule over the tables of a book."""
    if not has_form(rule, RULE_FORMS):
        raise InvalidRule(copied(rule))
    known = book[rule[1]]
    for column in [*rule[2], *rule[3:]]:
        if column not in known:
            raise UnknownColumn(column)


def check_unlike(columns):
    """Raise an error for the first column that stands a second time."""
    before = set()
    for column in columns:
        if column in before:
            raise DoubleName(column)
        before.add(column)


def is_name(text):
    """Tell whether a text is one to eight letters from a to z."""
    return 1 <= len(text) <= LONGEST_NAME and all(["a" <= letter <= "z" for letter in text])


def has_form(thing, forms):
    """Tell whether a tuple begins with the word of one of these forms, and has as many things as it."""
    # The pair is compared, not looked up: the first thing of a tuple that is no question may be a list.
    return bool(thing) and (thing[0], len(thing)) in forms


def copied(thing):
    """Return a value in which every list is new and stands in one place alone."""
    if isinstance(thing, list):
        return [copied(part) for part in thing]
    if isinstance(thing, tuple):
        return tuple([copied(part) for part in thing])
    return thing
