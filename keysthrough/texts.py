"""The texts of books and questions."""

from keysthrough.books import parts_of


def show_book(book):
    """Return the text of a book: its tables, then its rules."""
    tables = [" ".join(["table", name, *columns]) for name, columns in book.tables]
    rules = [rule_text(rule) for rule in book.rules]
    return "; ".join(tables + rules)


def rule_text(rule):
    """Return the text of a rule."""
    words = [rule[0], rule[1], *rule[2]]
    if rule[0] == "settles":
        words = [*words, ">", rule[3]]
    return " ".join(words)


def show_question(question):
    """Return the text of a question."""
    if question[0] == "all":
        return f"all {question[1]} as {question[2]}"
    parts = [f"({show_question(part)})" for part in parts_of(question)]
    return " ".join([question[0], *parts, *texts_behind(question)])


def texts_behind(question):
    """Return the texts of what a question has behind its parts."""
    word = question[0]
    if word in ("pair", "left"):
        return [f"{one}={other}" for one, other in question[3]]
    if word == "where" and question[2]:
        return [", ".join([condition_text(condition) for condition in question[2]])]
    if word == "show":
        return list(question[2])
    return []


def condition_text(condition):
    """Return the text of a condition."""
    if condition[0] == "missing":
        return f"{condition[1]} missing"
    return f"{condition[1]} {condition[0]} {condition[2]}"
