"""Stores of rows that keep the rules of a book, and the answers of questions over them."""

from keysthrough.books import columns_over, parts_of, shown
from keysthrough.errors import BrokenRule, InvalidRow, NoSuchRow, NothingToUndo, UnknownTable


class Store:
    """The rows of each table of a book, changed row by row, always such that they keep the rules."""

    def __init__(self, book):
        self._book = book
        self._rows = {name: [] for name, _ in book.tables}
        # Tuples (table, index, row) of what was done, the row None if it was put.
        self._steps = []

    def __len__(self):
        return len([row for rows in self._rows.values() for row in rows])

    def __eq__(self, other):
        return isinstance(other, Store) and self._book == other._book and self._rows == other._rows

    def __call__(self, question):
        shown(self._book, question)
        _, rows = answered(self._book, self._rows, question)
        return rows

    def rows(self, table):
        """Return the rows of a table, in order."""
        if table not in self._rows:
            raise UnknownTable(table)
        return list(self._rows[table])

    def put(self, table, row):
        """Put a row behind those of a table, and return its index."""
        present = self.rows(table)
        columns = self._book[table]
        if len(row) != len(columns):
            raise InvalidRow(row)
        for index, rule in enumerate(self._book.rules):
            if rule[1] == table and breaks(rule, columns, present, row):
                raise BrokenRule(index)
        self._rows[table].append(row)
        self._steps.append((table, len(present), None))
        return len(present)

    def take(self, table, index):
        """Take a row out of a table, and return it."""
        present = self.rows(table)
        if not 0 <= index < len(present):
            raise NoSuchRow(index)
        row = self._rows[table].pop(index)
        self._steps.append((table, index, row))
        return row

    def undo(self):
        """Take back the last row that was put or taken and was not taken back yet."""
        if not self._steps:
            raise NothingToUndo(0)
        table, index, row = self._steps.pop()
        if row is None:
            self._rows[table].pop(index)
        else:
            self._rows[table].insert(index, row)


def filled(book, rows):
    """Return the store of some tuples (table, row), put in one after the other."""
    store = Store(book)
    for table, row in rows:
        store.put(table, row)
    return store


def breaks(rule, columns, present, row):
    """Tell whether a row beside the present ones of its table breaks a rule that holds for these."""
    places = places_of(columns, rule[2])
    values = values_at(row, places)
    alike = [one for one in present if values_at(one, places) == values]
    if rule[0] == "key":
        return len(alike) > 0
    settled = columns.index(rule[3])
    return any([one[settled] != row[settled] for one in alike])


def answered(book, tables, question):
    """Return the columns and the rows that a sound question shows, from the rows of all tables by their names."""
    if question[0] == "all":
        return shown(book, question), list(tables[question[1]])
    parts = [answered(book, tables, part) for part in parts_of(question)]
    columns = columns_over(question, [part[0] for part in parts])
    return columns, rows_over(question, parts)


def rows_over(question, parts):
    """Return the rows of a question whose parts have these columns and rows."""
    word = question[0]
    columns, rows = parts[0]
    if word == "where":
        return chosen(columns, rows, question[2])
    if word == "show":
        places = places_of(columns, question[2])
        return [values_at(row, places) for row in rows]
    if word == "once":
        # A dict keeps each row once, in the place where it stood first.
        return list({row: True for row in rows})
    if word == "both":
        return rows + parts[1][1]
    if word == "left":
        return joined(parts, question[3], [(None,) * len(parts[1][0])])
    return joined(parts, question[3], [])


def joined(parts, pairs, instead):
    """Return each row of the first part with each of its partners, or with those told instead if it has none."""
    (columns, rows), (other_columns, other_rows) = parts
    places = places_of(columns, [column for column, _ in pairs])
    other_places = places_of(other_columns, [column for _, column in pairs])
    partners = {}
    for other_row in other_rows:
        values = values_at(other_row, other_places)
        if None not in values:
            partners.setdefault(values, []).append(other_row)
    return [row + partner for row in rows for partner in partners.get(values_at(row, places), instead)]


def chosen(columns, rows, conditions):
    """Return the rows for which all conditions hold."""
    kept = rows
    for condition in conditions:
        kept = rows_that_meet(columns, kept, condition)
    return kept


def rows_that_meet(columns, rows, condition):
    """Return the rows for which one condition holds."""
    place = columns.index(condition[1])
    if condition[0] == "is":
        return [row for row in rows if row[place] == condition[2]]
    if condition[0] == "missing":
        return [row for row in rows if row[place] is None]
    other_place = columns.index(condition[2])
    return [row for row in rows if row[place] is not None and row[place] == row[other_place]]


def places_of(columns, names):
    """Return the places that columns of these names have."""
    return [columns.index(name) for name in names]


def values_at(row, places):
    """Return the values of a row at these places."""
    return tuple([row[place] for place in places])
