"""The texts of statements, written and read."""

from boundonce.errors import InvalidText
from boundonce.names import MOST_VALUES
from boundonce.reader import Reader
from boundonce.statements import (
    DEEPEST_CALL,
    MOST_CONDITIONS,
    MOST_SOURCES,
    MOST_TERMS,
    MOST_TOLD,
    is_column,
    is_statement,
)


def write(statement):
    """Return the text of a statement."""
    distinct, told, sources, conditions = statement
    text = "select distinct " if distinct else "select "
    text += ", ".join([text_of_told(item) for item in told])
    text += " from " + ", ".join([text_of_source(source) for source in sources])
    if conditions:
        text += " where " + " and ".join([text_of_condition(condition) for condition in conditions])
    return text


def dotted(first, name):
    """Return a name behind its schema or label, which may be None."""
    if first is None:
        return name
    return first + "." + name


def quoted(word):
    """Return a value as it stands in a text."""
    return "'" + word + "'"


def text_of_values(values):
    """Return a list of values as it stands in a text."""
    return "(" + ", ".join([quoted(word) for word in values]) + ")"


def text_of_term(term):
    """Return the text of a column, a value or a call."""
    if isinstance(term, str):
        return quoted(term)
    if len(term) == 2:
        return dotted(term[0], term[1])
    return dotted(term[1], term[2]) + "(" + ", ".join([text_of_term(inner) for inner in term[3]]) + ")"


def text_of_told(item):
    """Return the text of a told thing."""
    if item[0] == "star":
        return item[1] + ".*"
    text = text_of_term(item[1])
    if item[0] == "column" and item[1][1] == item[2]:
        return text
    return text + " as " + item[2]


def text_of_source(source):
    """Return the text of a source."""
    schema, name, label = source
    text = dotted(schema, name)
    if label == name:
        return text
    return text + " " + label


def text_of_condition(condition):
    """Return the text of a condition."""
    word, column, other = condition
    if word == "equal":
        return text_of_term(column) + " = " + text_of_term(other)
    return text_of_term(column) + " in " + text_of_values(other)


def read(text):
    """Return the statement with a text."""
    reader = Reader(text)
    statement = take_statement(reader)
    reader.must_end()
    return statement


def take_statement(reader):
    """Take a statement that must stand next."""
    start = reader.at
    reader.must_take("select ")
    distinct = reader.takes("distinct ")
    told = take_list(reader, take_told, ", ", MOST_TOLD)
    reader.must_take(" from ")
    sources = take_list(reader, take_source, ", ", MOST_SOURCES)
    conditions = ()
    if reader.takes(" where "):
        conditions = take_list(reader, take_condition, " and ", MOST_CONDITIONS)
    statement = (distinct, told, sources, conditions)
    if not is_statement(statement):
        raise InvalidText("this reads as no statement")
    # The same statement reads out of several ways to say it; its text is one of them.
    if write(statement) != reader.text[start:reader.at]:
        raise InvalidText("this is not how the statement is written")
    return statement


def take_list(reader, take_one, sign, most):
    """Take one or more things with a sign between them, as a tuple."""
    found = [take_one(reader)]
    while reader.takes(sign):
        # A longer list is refused at once, however long it is.
        if len(found) == most:
            raise InvalidText("a list is too long")
        found.append(take_one(reader))
    return tuple(found)


def take_told(reader):
    """Take a told thing that must stand next."""
    start = reader.at
    if not reader.sees("'"):
        label = reader.take_name()
        if reader.takes(".*"):
            return ("star", label)
        reader.at = start
    term = take_term(reader, DEEPEST_CALL)
    if not is_column(term):
        reader.must_take(" as ")
        return ("term", term, reader.take_name())
    if reader.takes(" as "):
        return ("column", term, reader.take_name())
    return ("column", term, term[1])


def take_term(reader, deepest):
    """Take a column, a value or a call, with at most so many calls within one another."""
    if reader.sees("'"):
        return reader.take_value()
    first, name = take_dotted(reader)
    if not reader.takes("("):
        return (first, name)
    # The count ends the recursion: a text may open as many parentheses as anybody likes.
    if deepest == 0:
        raise InvalidText("too many calls lie within one another")
    terms = [take_term(reader, deepest - 1)]
    while len(terms) < MOST_TERMS and reader.takes(", "):
        terms.append(take_term(reader, deepest - 1))
    reader.must_take(")")
    return ("call", first, name, tuple(terms))


def take_dotted(reader):
    """Take a name that must stand next, behind a schema or label or alone, as a pair."""
    name = reader.take_name()
    if reader.takes("."):
        return (name, reader.take_name())
    return (None, name)


def take_source(reader):
    """Take a source that must stand next."""
    schema, name = take_dotted(reader)
    if reader.sees(" where ") or not reader.takes(" "):
        return (schema, name, name)
    return (schema, name, reader.take_name())


def take_condition(reader):
    """Take a condition that must stand next."""
    column = take_dotted(reader)
    if reader.takes(" = "):
        return ("equal", column, take_dotted(reader))
    reader.must_take(" in (")
    values = take_list(reader, take_value, ", ", MOST_VALUES)
    reader.must_take(")")
    return ("in", column, values)


def take_value(reader):
    """Take a value in quotes that must stand next."""
    return reader.take_value()
