"""The texts of deeds, written and read, and the texts of entries.

A pattern tells a text: pairs of the sign that stands ahead of a part and the
word for how the part is written.
"""

from boundonce.deedforms import MOST_COLUMNS
from boundonce.deeds import is_deed
from boundonce.errors import InvalidText
from boundonce.names import MOST_VALUES
from boundonce.reader import Reader
from boundonce.statements import MOST_SCHEMAS
from boundonce.texts import take_list, take_statement, take_value, text_of_values, write

# Where one text begins as another one does, the longer beginning stands first.
DEED_PATTERNS = {
    "table": (("create table ", "name"), (".", "name"), (" ", "columns")),
    "view": (("create view ", "name"), (".", "name"), (" ", "names"), (" as ", "statement")),
    "function": (("create function ", "name"), (".", "name"), (" ", "names"), (" ", "name")),
    "drop function": (("drop function ", "name"), (".", "name"), (" ", "names")),
    "drop column": (("drop column ", "name"), (".", "name"), (".", "name")),
    "drop fact": (("drop fact ", "name"), (".", "name"), (" ", "fact")),
    "drop rule": (("drop rule ", "name"), (".", "name"), (" ", "name")),
    "drop": (("drop ", "name"), (".", "name")),
    "rename function": (("rename function ", "name"), (".", "name"), (" ", "names"), (" to ", "name")),
    "rename column": (("rename column ", "name"), (".", "name"), (".", "name"), (" to ", "name")),
    "rename": (("rename ", "name"), (".", "name"), (" to ", "name")),
    "column": (("add column ", "name"), (".", "name"), (".", "name"), (" ", "name")),
    "fact": (("add fact ", "name"), (".", "name"), (" ", "fact")),
    "grant": (("grant ", "name"), (".", "name"), (" ", "name")),
    "revoke": (("revoke ", "name"), (".", "name"), (" ", "name")),
    "rule": (("set rule ", "name"), (".", "name"), (" ", "name"), (" ", "name"), (" ", "values")),
}

FACT_PATTERNS = {
    "key": (("key ", "names"),),
    "in": (("in ", "name"), (" ", "values")),
    "ref": (("ref ", "names"), (" ", "name"), (".", "name"), (" ", "names")),
}

ENTRY_PATTERNS = {
    "at": (("at ", "name"), (".", "name"), (" ", "number")),
    "free": (("free ", "name"), (".", "name")),
    "column": (("column ", "number"), (" ", "name"), (" ", "number")),
    "bare": (("bare ", "number"), (" ", "name")),
    "columns": (("columns ", "number"), (" ", "pairs")),
    "function": (("function ", "name"), (".", "name"), (" ", "names"), (" ", "number")),
    "unmade": (("unmade ", "name"), (".", "name"), (" ", "names")),
    "right": (("right ", "name"), (" ", "number")),
    "rule": (("rule ", "name"), (" ", "number"), (" ", "rule")),
}

# In these texts the parts of the deed stand in another order: here at which place of it each one is.
OTHER_ORDERS = {
    "view": (0, 1, 3, 2),
    "grant": (1, 2, 0),
    "revoke": (1, 2, 0),
    "rule": (1, 2, 0, 3, 4),
    "drop rule": (1, 2, 0),
}


def write_deed(deed):
    """Return the text of a deed."""
    word, parts = deed[0], deed[1:]
    if word in OTHER_ORDERS:
        parts = [parts[at] for at in OTHER_ORDERS[word]]
    return text_of_parts(DEED_PATTERNS[word], parts)


def write_entry(entry):
    """Return the text of an entry."""
    return text_of_parts(ENTRY_PATTERNS[entry[0]], entry[1:])


def text_of_parts(pattern, parts):
    """Return the text of parts in a pattern."""
    return "".join([sign + text_of_part(part, word) for (sign, word), part in zip(pattern, parts)])


def text_of_part(part, word):
    """Return the text of a part that is written as the word tells."""
    if word == "name":
        return part
    if word == "number":
        return str(part)
    if word == "names":
        return "(" + ", ".join(part) + ")"
    if word == "columns":
        return "(" + ", ".join([name + " " + kind for name, kind in part]) + ")"
    if word == "values":
        return text_of_values(part)
    if word == "statement":
        return write(part)
    if word == "fact":
        return text_of_parts(FACT_PATTERNS[part[0]], part[1:])
    if word == "pairs":
        return " ".join([name + " " + str(number) for name, number in part])
    return "none" if part is None else str(part[0]) + " " + text_of_values(part[1])


def read_deed(text):
    """Return the deed with a text."""
    reader = Reader(text)
    deed = take_parts(reader, dict(DEED_PATTERNS))
    reader.must_end()
    if deed[0] in OTHER_ORDERS:
        order = OTHER_ORDERS[deed[0]]
        deed = deed[:1] + tuple([deed[order.index(at) + 1] for at in range(len(order))])
    if not is_deed(deed):
        raise InvalidText("this reads as no deed")
    return deed


def take_parts(reader, patterns):
    """Take what has the text of a pattern that must stand next, as a tuple that begins with the pattern's word."""
    word = first_seen(reader, patterns)
    parts = [word]
    for sign, kind in patterns[word]:
        reader.must_take(sign)
        parts.append(take_part(reader, kind))
    return tuple(parts)


def first_seen(reader, patterns):
    """Return the word of the first pattern of which the beginning stands next."""
    for word in patterns:
        if reader.sees(patterns[word][0][0]):
            return word
    raise InvalidText("this is how no text begins")


def take_part(reader, word):
    """Take a part that is written as the word tells, and that must stand next."""
    if word == "name":
        return reader.take_name()
    if word == "names":
        return take_listed(reader, take_name, MOST_SCHEMAS)
    if word == "columns":
        return take_listed(reader, take_new_column, MOST_COLUMNS)
    if word == "values":
        return take_listed(reader, take_value, MOST_VALUES)
    if word == "statement":
        return take_statement(reader)
    return take_parts(reader, dict(FACT_PATTERNS))


def take_listed(reader, take_one, most):
    """Take a list in parentheses that must stand next, as a tuple; it may be of nothing."""
    reader.must_take("(")
    if reader.takes(")"):
        return ()
    found = take_list(reader, take_one, ", ", most)
    reader.must_take(")")
    return found


def take_name(reader):
    """Take a name that must stand next."""
    return reader.take_name()


def take_new_column(reader):
    """Take the name of a column and its type, which must stand next."""
    name = reader.take_name()
    reader.must_take(" ")
    return (name, reader.take_name())
