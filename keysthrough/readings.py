"""Books and questions as they are read from their texts."""

from keysthrough.books import PART_COUNTS, Book, is_name
from keysthrough.errors import KeyTellError, Unreadable

MOST_DIGITS = 4


def read_book(text):
    """Return the book with a text."""
    try:
        tables, rules = tables_and_rules(text)
        return Book(tables, rules)
    except KeyTellError:
        raise Unreadable(text) from None


def tables_and_rules(text):
    """Return the tables and the rules that a text tells, whether or not a book can have them."""
    tables = []
    rules = []
    for piece in text.split("; ") if text else []:
        words = piece.split(" ")
        if words[0] != "table":
            rules.append(rule_of(words))
        elif rules or len(words) < 3:
            raise Unreadable(piece)
        else:
            tables.append((words[1], words[2:]))
    return tables, rules


def rule_of(words):
    """Return the rule that these words tell."""
    if words[0] == "key" and len(words) >= 2:
        return ("key", words[1], words[2:])
    if words[0] == "settles" and len(words) >= 4 and words[-2] == ">":
        return ("settles", words[1], words[2:-2], words[-1])
    raise Unreadable(" ".join(words))


def read_question(text):
    """Return the question with a text."""
    try:
        return question_of(text)
    except KeyTellError:
        raise Unreadable(text) from None


def question_of(text):
    """Return the question that the text of a whole question or of a part of one tells."""
    words = text.split(" ")
    word = words[0]
    if word == "all":
        return question_of_all(words)
    if word not in PART_COUNTS:
        raise Unreadable(text)
    rest = text[len(word):]
    parts = []
    for _ in range(PART_COUNTS[word]):
        part, rest = bracketed(rest)
        parts.append(question_of(part))
    if word not in ("both", "once"):
        return (word, *parts, things_behind(word, rest))
    if rest:
        raise Unreadable(text)
    return (word, *parts)


def question_of_all(words):
    """Return the question that the words `all`, a table, `as` and a short name tell."""
    if len(words) != 4 or words[2] != "as" or not is_name(words[1]) or not is_name(words[3]):
        raise Unreadable(" ".join(words))
    return ("all", words[1], words[3])


def bracketed(text):
    """Return what stands in the round brackets that a text begins with, behind a space, and what stands behind them."""
    if not text.startswith(" ("):
        raise Unreadable(text)
    depth = 0
    for at, sign in enumerate(text):
        if sign == "(":
            depth += 1
        elif sign == ")":
            depth -= 1
            if depth == 0:
                return text[2:at], text[at + 1:]
    raise Unreadable(text)


def things_behind(word, text):
    """Return the pairs, the conditions or the columns that the text behind the parts of a question tells."""
    if not text:
        return []
    if not text.startswith(" "):
        raise Unreadable(text)
    if word == "where":
        return [condition_of(piece.split(" ")) for piece in text[1:].split(", ")]
    if word == "show":
        return [column_of(piece) for piece in text[1:].split(" ")]
    return [pair_of(piece.split("=")) for piece in text[1:].split(" ")]


def pair_of(columns):
    """Return the pair of columns that two texts tell."""
    if len(columns) != 2:
        raise Unreadable("=".join(columns))
    return (column_of(columns[0]), column_of(columns[1]))


def condition_of(words):
    """Return the condition that these words tell."""
    if len(words) == 2 and words[1] == "missing":
        return ("missing", column_of(words[0]))
    if len(words) == 3 and words[1] == "same":
        return ("same", column_of(words[0]), column_of(words[2]))
    if len(words) == 3 and words[1] == "is":
        return ("is", column_of(words[0]), integer_of(words[2]))
    raise Unreadable(" ".join(words))


def column_of(text):
    """Return a text if it is that of a shown column: two names with a dot between."""
    names = text.split(".")
    if len(names) != 2 or not is_name(names[0]) or not is_name(names[1]):
        raise Unreadable(text)
    return text


def integer_of(text):
    """Return the integer that a text tells."""
    digits = text.removeprefix("-")
    if not 1 <= len(digits) <= MOST_DIGITS or not all(["0" <= sign <= "9" for sign in digits]):
        raise Unreadable(text)
    # A zero ahead, or one with a sign, is not how the integer is shown.
    if str(int(text)) != text:
        raise Unreadable(text)
    return int(text)
