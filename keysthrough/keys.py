"""What is told of the answers of a question for all stores that keep the rules: its keys, and what settles what."""

from keysthrough.books import shown
from keysthrough.errors import UnknownColumn
from keysthrough.sketches import Sketch, planned, ties_of
from keysthrough.stores import places_of


def is_key(book, question, columns):
    """Tell whether some shown columns are a key."""
    places = told_places(book, question, columns)
    return alike_places(twins(book, question), places) is None


def counter(book, question, columns):
    """Return the tuples (table, row) of a least store that shows that some columns are no key, or None if they are."""
    places = told_places(book, question, columns)
    return least_store(book, [(sketch, sketch.alike_at(places), sketch.differing) for sketch in twins(book, question)])


def least_keys(book, question):
    """Return the keys of which no part with fewer columns is one."""
    columns = shown(book, question)
    return [[columns[place] for place in lot] for lot in least_lots(twins(book, question), len(columns))]


def doubles(book, question):
    """Tell whether an answer can have two rows with the same values in all columns."""
    return not is_key(book, question, shown(book, question))


def can_answer(book, question, number):
    """Tell whether an answer can have at least so many rows, one or two."""
    if number > 1:
        return not is_key(book, question, [])
    shown(book, question)
    return bool(possible_plans(book, question))


def settles(book, question, columns, column):
    """Tell whether some shown columns settle a column."""
    places = told_places(book, question, [*columns, column])
    return all([still_settled(sketch, places[:-1], places[-1:]) for sketch in twins(book, question)])


def counter_settles(book, question, columns, column):
    """Return the tuples (table, row) of a least store that shows that some columns do not settle one, or None."""
    places = told_places(book, question, [*columns, column])
    return least_store(book, [(sketch, sketch.alike_at(places[:-1]), [sketch.columns[places[-1]]])
                              for sketch in twins(book, question)])


def closure(book, question, columns):
    """Return all shown columns that some shown columns settle."""
    places = told_places(book, question, columns)
    names = shown(book, question)
    settled = list(range(len(names)))
    for sketch in twins(book, question):
        settled = still_settled(sketch, places, settled)
    return [names[place] for place in settled]


def alike_in_keys(book, one, other):
    """Tell whether two questions show as many columns, and have their least keys at the same places."""
    count = len(shown(book, one))
    if len(shown(book, other)) != count:
        return False
    return least_lots(twins(book, one), count) == least_lots(twins(book, other), count)


def fewest_rules(book, question, columns, offered):
    """Return all least lots of offered rules, as indexes, with which some columns are a key."""
    places = told_places(book, question, columns)
    book.with_rules(offered)
    found = []
    for lot in lots_of(len(offered)):
        if not has_part(lot, found):
            stricter = book.with_rules([offered[index] for index in lot])
            if alike_places(twins(stricter, question), places) is None:
                found.append(lot)
    return found


def told_places(book, question, columns):
    """Return the places of shown columns, or raise the first error of the question or of the columns."""
    names = shown(book, question)
    for name in columns:
        if name not in names:
            raise UnknownColumn(name)
    return places_of(names, columns)


def possible_plans(book, question):
    """Return the plans by which a row of an answer can come about."""
    ties = ties_of(book)
    _, plans = planned(book, question)
    return [plan for plan in plans if is_possible(Sketch(ties, [plan]))]


def is_possible(sketch):
    """Tell whether some store has the rows of a sketch."""
    return sketch.solved(sketch.labels, sketch.firm, None) is not None


def twins(book, question):
    """Return the sketches of two rows of an answer, for each two plans by which they can come about."""
    ties = ties_of(book)
    plans = possible_plans(book, question)
    sketches = [Sketch(ties, [plan, other]) for index, plan in enumerate(plans) for other in plans[index:]]
    return [sketch for sketch in sketches if sketch.stands(sketch.labels, sketch.firm, None)]


def alike_places(sketches, places):
    """Return all places at which two rows are the same that are so at some places, or None if two rows never are."""
    for sketch in sketches:
        labels = sketch.solved(sketch.alike_at(places), sketch.firm, sketch.differing)
        if labels is not None:
            return [place for place, (one, other) in enumerate(sketch.columns) if labels[one] == labels[other]]
    return None


def still_settled(sketch, places, settled):
    """Return those of the settled places that two rows of a sketch that are the same at some places leave so."""
    labels = sketch.alike_at(places)
    left = settled
    found = sketch.solved(labels, sketch.firm, [sketch.columns[place] for place in left])
    while found is not None:
        left = [place for place in left if found[sketch.columns[place][0]] == found[sketch.columns[place][1]]]
        found = sketch.solved(labels, sketch.firm, [sketch.columns[place] for place in left])
    return left


def least_lots(sketches, count):
    """Return the least keys of sketched rows with so many columns, as lots of places."""
    found = []
    # Lots of places at which two rows can be the same; no part of them is a key.
    alike = []
    for lot in lots_of(count):
        if not has_part(lot, found) and not any([has_part(places, [lot]) for places in alike]):
            same = alike_places(sketches, lot)
            if same is None:
                found.append(lot)
            else:
                alike.append(same)
    return found


def lots_of(count):
    """Return all ascending lists of numbers below a count, by their lengths, then as lists."""
    lots = [[]]
    longest = [[]]
    for _ in range(count):
        longest = [[*lot, number] for lot in longest for number in range(lot[-1] + 1 if lot else 0, count)]
        lots = lots + longest
    return lots


def has_part(lot, parts):
    """Tell whether a lot has all numbers of one of these parts."""
    return any([all([number in lot for number in part]) for part in parts])


def least_store(book, trials):
    """Return the rows of a least store that some trials, tuples (sketch, labels, apart), can have, or None."""
    best = None
    most = sum([len(sketch.lines) for sketch, _, _ in trials])
    for sketch, labels, apart in trials:
        if sketch.solved(labels, sketch.firm, apart) is not None:
            found = sketch.shrunk(labels, apart, 0, most)
            if found is not None:
                best = sketch.rows_under(found, [name for name, _ in book.tables])
                most = len(best) - 1
    return best
