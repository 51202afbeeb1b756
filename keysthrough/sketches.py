"""Plans, the ways in which a row of an answer comes about, and sketches of the stores in which they are carried out.

An operand is a tuple (row, place), what a row of a plan has there, or (None, value), a known value. Behind its columns
a row has one place more, for itself: rows that are the same at that place are one row.
A demand is a tuple (operand, operand, present): both have the same value, and, if `present`, it is not missing.
"""

from keysthrough.books import columns_over, parts_of, shown
from keysthrough.stores import places_of, values_at

MISSING = (None, None)


class Plan:
    """One way in which a row of an answer comes about; a plan never changes."""

    def __init__(self, needed, cells, demands, bars, choices, marks):
        # Tuples (table, number of its columns), one for each row that is needed.
        self.needed = needed
        # The operands that are shown, column by column.
        self.cells = cells
        # What must hold for the rows.
        self.demands = demands
        # Tuples (tables, demands): no rows of these tables, which the demands call -1, -2 and so on, may meet them.
        self.bars = bars
        # The way that is taken at each `both` and `left` that does not stand in an `once`.
        self.choices = choices
        # The operands in one of which two rows differ that have the same choices, and are two.
        self.marks = marks

    def showing(self, places):
        """Return the plan if only the columns at these places are shown."""
        cells = [self.cells[place] for place in places]
        return Plan(self.needed, cells, self.demands, self.bars, self.choices, self.marks)

    def taken(self, choice):
        """Return the plan if it is taken by a choice."""
        return Plan(self.needed, self.cells, self.demands, self.bars, (choice, *self.choices), self.marks)

    def by_values(self):
        """Return the plan if rows are told apart by their values alone, whatever they come from."""
        return Plan(self.needed, self.cells, self.demands, self.bars, (), self.cells)

    def meeting(self, columns, conditions):
        """Return the plan if it shows these columns, and conditions on them must hold."""
        demands = list(self.demands)
        for condition in conditions:
            cell = self.cells[columns.index(condition[1])]
            if condition[0] == "is":
                demands.append((cell, (None, condition[2]), True))
            elif condition[0] == "missing":
                demands.append((cell, MISSING, False))
            else:
                demands.append((cell, self.cells[columns.index(condition[2])], True))
        return Plan(self.needed, self.cells, demands, self.bars, self.choices, self.marks)

    def joined(self, other, links):
        """Return the plan of one row with one of the other plan, with the same values at the linked places.

        The other plan is that of the other part of a join, which holds no `left`; so it has no bars.
        """
        by = len(self.needed)
        cells = [moved(cell, by) for cell in other.cells]
        demands = [(moved(one, by), moved(two, by), present) for one, two, present in other.demands]
        demands = self.demands + demands + linked(self.cells, cells, links)
        choices = self.choices + other.choices
        marks = self.marks + [moved(mark, by) for mark in other.marks]
        return Plan(self.needed + other.needed, self.cells + cells, demands, self.bars, choices, marks)

    def alone(self, other, links):
        """Return the plan of one row for which there is none of the other plan, which has no bars, as in `joined`."""
        cells = [in_bar(cell) for cell in other.cells]
        demands = [(in_bar(one), in_bar(two), present) for one, two, present in other.demands]
        bar = ([table for table, _ in other.needed], demands + linked(self.cells, cells, links))
        shows = self.cells + [MISSING] * len(cells)
        return Plan(self.needed, shows, self.demands, [*self.bars, bar], self.choices, self.marks)


class Sketch:
    """The stores in which one or two plans are carried out, told by which of their values are the same.

    Each known value and each place of a row is a cell, told by a number; cell 0 is the missing value, the other known
    ones follow. Labels are a list that has for each cell the lowest cell with the same value. As long as only those
    values are the same that must be, all others may be taken to be unlike, and not missing.
    """

    def __init__(self, ties, plans):
        self.known = known_in(plans)
        parts = numbered(plans, len(self.known))
        # Tuples (table, cells) of all rows.
        self.lines = [row for rows in parts for row in rows]
        self.ties = ties_over(ties, self.lines)
        demands = [self.in_cells(demand, rows) for plan, rows in zip(plans, parts) for demand in plan.demands]
        # The cells in which no value may be missing.
        self.firm = [one for one, _, present in demands if present]
        # Lists of demands, in each of which there must be one that does not hold.
        self.barred = [barred for plan, rows in zip(plans, parts) for barred in self.barred_by(plan, rows)]
        # The cells of each shown column, in the row of the first and in that of the last plan.
        self.columns = self.side_by_side(plans[0].cells, parts[0], plans[-1].cells, parts[-1])
        # The pairs of cells in one of which there must be unlike values, so that the plans give two rows of an answer;
        # None if they do so anyhow.
        self.differing = None
        if plans[0].choices == plans[-1].choices:
            self.differing = self.side_by_side(plans[0].marks, parts[0], plans[-1].marks, parts[-1])
        count = len(self.known) + sum([len(cells) for _, cells in self.lines])
        self.labels = self.tied(list(range(count)), [(one, two) for one, two, _ in demands])

    def cell_of(self, operand, rows):
        """Return the cell of an operand over these rows."""
        row, place = operand
        return self.known.index(place) if row is None else rows[row][1][place]

    def in_cells(self, demand, rows):
        """Return a demand over these rows as one over cells."""
        one, two, present = demand
        return self.cell_of(one, rows), self.cell_of(two, rows), present

    def side_by_side(self, operands, rows, other_operands, other_rows):
        """Return the pairs of cells that two lists of operands have at the same places."""
        cells = [self.cell_of(operand, rows) for operand in operands]
        return list(zip(cells, [self.cell_of(operand, other_rows) for operand in other_operands]))

    def barred_by(self, plan, rows):
        """Return the demands that a plan over these rows bars, one list for each lot of rows that could meet them."""
        found = []
        for tables, demands in plan.bars:
            for chosen in choices_of_rows(self.lines, tables):
                # The demands of a bar call the first chosen row -1: it must stand last.
                over = rows + chosen[::-1]
                found.append([self.in_cells(demand, over) for demand in demands])
        return found

    def tied(self, labels, pairs):
        """Return the labels if the cells of these pairs have the same values too, with all that the rules then ask."""
        labels = list(labels)
        for one, two in pairs:
            tie(labels, one, two)
        changed = True
        while changed:
            changed = any([tie_settled(labels, rows) for rows in self.ties])
        return labels

    def alike_at(self, places):
        """Return the labels if the rows of both plans are the same in the columns at these places."""
        return self.tied(self.labels, [self.columns[place] for place in places])

    def stands(self, labels, firm, apart):
        """Tell whether labels are possible but for what is barred.

        No value is missing in the cells `firm`; one of the pairs `apart`, if they are not None, has unlike values.
        """
        known = len(self.known)
        if labels[:known] != list(range(known)) or 0 in [labels[cell] for cell in firm]:
            return False
        return apart is None or any([labels[one] != labels[two] for one, two in apart])

    def solved(self, labels, firm, apart):
        """Return these labels, or some that are tied further, that stand, and with which nothing barred holds; or None.

        Tied further are only missing values: nothing else keeps barred demands from holding that hold.
        """
        if not self.stands(labels, firm, apart):
            return None
        held = first_held(labels, self.barred)
        if held is None:
            return labels
        firm = list(firm)
        for cell in [one for one, _, present in held if present]:
            found = self.solved(self.tied(labels, [(cell, 0)]), firm, apart)
            if found is not None:
                return found
            # What is left to try is that the value is not missing here.
            firm.append(cell)
        return None

    def shrunk(self, labels, apart, at, most):
        """Return solved labels with the fewest rows, if these are at most so many, else None.

        Only the rows from an index on are still to be tied to those ahead of them, or left as they are.
        """
        if not self.stands(labels, self.firm, apart) or self.least_count(labels, at) > most:
            return None
        if at == len(self.lines):
            return self.solved(labels, self.firm, apart)
        best = None
        for mate in self.mates(labels, at):
            tied = self.tied(labels, list(zip(self.lines[mate][1], self.lines[at][1])))
            found = self.shrunk(tied, apart, at + 1, most)
            if found is not None:
                best = found
                most = len(self.leaders(found)) - 1
        found = self.shrunk(labels, apart, at + 1, most)
        return best if found is None else found

    def least_count(self, labels, at):
        """Return how many rows are left at the least, if those ahead of an index are not tied further."""
        ahead = [index for index in self.leaders(labels) if index < at]
        tables = [self.lines[index][0] for index in ahead]
        return len(ahead) + len({table for table, _ in self.lines[at:] if table not in tables})

    def mates(self, labels, at):
        """Return the indexes of the rows ahead of one that need not be the same row as it, but could be."""
        leaders = self.leaders(labels)
        if at not in leaders:
            return []
        return [index for index in leaders if index < at and self.lines[index][0] == self.lines[at][0]]

    def leaders(self, labels):
        """Return the ascending indexes of the rows, of those that are one row only the first."""
        found = {}
        for index, (_, cells) in enumerate(self.lines):
            found.setdefault(labels[cells[-1]], index)
        return list(found.values())

    def rows_under(self, labels, tables):
        """Return the tuples (table, row) of a store with these labels, in the order of the tables."""
        rows = [self.lines[index] for index in self.leaders(labels)]
        found = [(name, values_at(labels, cells[:-1])) for table in tables for name, cells in rows if name == table]
        told = dict(enumerate(self.known))
        fresh = 0
        for label in [one for _, row in found for one in row]:
            if label not in told:
                fresh = next_unknown(fresh, self.known)
                told[label] = fresh
        return [(name, values_at(told, row)) for name, row in found]


def planned(book, question):
    """Return the columns and the plans of a sound question."""
    if question[0] == "all":
        columns = shown(book, question)
        cells = [(0, place) for place in range(len(columns))]
        return columns, [Plan([(question[1], len(columns))], cells, [], [], (), [(0, len(columns))])]
    parts = [planned(book, part) for part in parts_of(question)]
    part_columns = [columns for columns, _ in parts]
    return columns_over(question, part_columns), plans_over(question, part_columns, [plans for _, plans in parts])


def plans_over(question, part_columns, part_plans):
    """Return the plans of a question whose parts show these columns and have these plans."""
    word = question[0]
    columns, plans = part_columns[0], part_plans[0]
    if word == "where":
        return [plan.meeting(columns, question[2]) for plan in plans]
    if word == "show":
        return [plan.showing(places_of(columns, question[2])) for plan in plans]
    if word == "once":
        return [plan.by_values() for plan in plans]
    if word == "both":
        return [plan.taken(side) for side in (0, 1) for plan in part_plans[side]]
    links = [(columns.index(one), part_columns[1].index(two)) for one, two in question[3]]
    joined = [plan.joined(other, links) for plan in plans for other in part_plans[1]]
    if word == "pair":
        return joined
    # The other part of a `left` has one plan, since it holds no `both`.
    return [plan.taken(0) for plan in joined] + [plan.alone(part_plans[1][0], links).taken(1) for plan in plans]


def linked(cells, other_cells, links):
    """Return the demands that two rows with these cells have the same values at the linked places."""
    return [(cells[place], other_cells[other_place], True) for place, other_place in links]


def moved(operand, by):
    """Return an operand over rows that stand so many rows further behind."""
    row, place = operand
    return operand if row is None else (row + by, place)


def in_bar(operand):
    """Return an operand over the rows of a plan as one over the rows of a bar."""
    row, place = operand
    return operand if row is None else (-1 - row, place)


def ties_of(book):
    """Return the rules of a book as tuples (table, places, places that these settle)."""
    ties = []
    for rule in book.rules:
        columns = book[rule[1]]
        settled = list(range(len(columns) + 1)) if rule[0] == "key" else [columns.index(rule[3])]
        ties.append((rule[1], places_of(columns, rule[2]), settled))
    return ties


def known_in(plans):
    """Return the values that the demands of plans tell, the missing one ahead."""
    found = {None: True}
    for plan in plans:
        for demands in [plan.demands, *[barred for _, barred in plan.bars]]:
            for one, two, _ in demands:
                found.update({value: True for row, value in (one, two) if row is None})
    return list(found)


def numbered(plans, start):
    """Return for each plan the list of its rows, tuples (table, cells), with cells numbered from a start on."""
    parts = []
    for plan in plans:
        rows = []
        for table, count in plan.needed:
            rows.append((table, list(range(start, start + count + 1))))
            start = start + count + 1
        parts.append(rows)
    return parts


def ties_over(ties, rows):
    """Return for each tie the rows of its table, as tuples (cells, cells that these settle)."""
    found = []
    for table, places, settled in ties:
        lots = [cells for name, cells in rows if name == table]
        found.append([(values_at(cells, places), values_at(cells, settled)) for cells in lots])
    return found


def choices_of_rows(rows, tables):
    """Return all lists of rows with one of each of these tables."""
    found = [[]]
    for table in tables:
        found = [[*chosen, row] for chosen in found for row in rows if row[0] == table]
    return found


def tie(labels, one, two):
    """Label all that has the value of one of two cells as the same, in place."""
    low, high = sorted([labels[one], labels[two]])
    if low != high:
        labels[:] = [low if label == high else label for label in labels]


def tie_settled(labels, rows):
    """Tie, in place, what a rule settles in rows that are alike for it; tell whether this changed the labels."""
    before = list(labels)
    first = {}
    for cells, settled in rows:
        model = first.setdefault(values_at(labels, cells), settled)
        for one, two in zip(model, settled):
            tie(labels, one, two)
    return labels != before


def first_held(labels, lists):
    """Return the first list of demands that all hold, or None."""
    for demands in lists:
        if all([labels[one] == labels[two] and (labels[one] != 0 or not present) for one, two, present in demands]):
            return demands
    return None


def next_unknown(number, known):
    """Return the next number that is no known value."""
    number = number + 1
    while number in known:
        number = number + 1
    return number
