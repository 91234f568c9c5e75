"""The form of statements and paths."""

from boundonce.forms import are_different, is_tuple_of
from boundonce.names import is_name, is_name_or_none, is_value, is_values

MOST_SOURCES = 4
MOST_TOLD = 8
MOST_CONDITIONS = 8
MOST_TERMS = 2
MOST_SCHEMAS = 6
DEEPEST_CALL = 3


def is_statement(thing):
    """Return whether any object is a statement."""
    if not isinstance(thing, tuple) or len(thing) != 4:
        return False
    distinct, told, sources, conditions = thing
    return (
        isinstance(distinct, bool)
        and is_tuple_of(told, 1, MOST_TOLD, is_told)
        and is_tuple_of(sources, 1, MOST_SOURCES, is_source)
        and are_different([source[2] for source in sources])
        and is_tuple_of(conditions, 0, MOST_CONDITIONS, is_condition)
    )


def is_view_statement(thing):
    """Return whether any object is a statement for views."""
    if not is_statement(thing) or thing[0]:
        return False
    for item in thing[1]:
        if item[0] == "star" or has_value(item[1]):
            return False
    return are_different([item[2] for item in thing[1]])


def is_path(thing):
    """Return whether any object is a path."""
    return is_tuple_of(thing, 0, MOST_SCHEMAS, is_name) and are_different(thing)


def is_column(thing):
    """Return whether any object is a column of a statement."""
    if not isinstance(thing, tuple) or len(thing) != 2:
        return False
    label, name = thing
    return (label is None or is_name(label)) and is_name(name)


def is_call(thing, deepest):
    """Return whether any object is a call, with at most so many calls within one another."""
    # The count ends the recursion: a thing may be nested as deep as anybody likes.
    if deepest == 0 or not isinstance(thing, tuple) or len(thing) != 4:
        return False
    word, schema, name, terms = thing
    if word != "call" or not is_name_or_none(schema) or not is_name(name):
        return False
    if not isinstance(terms, tuple) or not 1 <= len(terms) <= MOST_TERMS:
        return False
    for term in terms:
        if not is_column(term) and not is_value(term) and not is_call(term, deepest - 1):
            return False
    return True


def is_told(thing):
    """Return whether any object is a told thing of a statement."""
    if not isinstance(thing, tuple):
        return False
    if len(thing) == 2:
        return thing[0] == "star" and is_name(thing[1])
    if len(thing) != 3 or not is_name(thing[2]):
        return False
    if thing[0] == "column":
        return is_column(thing[1])
    return thing[0] == "term" and (is_value(thing[1]) or is_call(thing[1], DEEPEST_CALL))


def is_source(thing):
    """Return whether any object is a source of a statement."""
    if not isinstance(thing, tuple) or len(thing) != 3:
        return False
    schema, name, label = thing
    return (schema is None or is_name(schema)) and is_name(name) and is_name(label)


def is_condition(thing):
    """Return whether any object is a condition of a statement."""
    if not isinstance(thing, tuple) or len(thing) != 3 or not is_column(thing[1]):
        return False
    if thing[0] == "equal":
        return is_column(thing[2])
    return thing[0] == "in" and is_values(thing[2])


def has_value(term):
    """Return whether a term is a value, or a call in which one stands."""
    if isinstance(term, str):
        return True
    if len(term) == 2:
        return False
    return any([has_value(inner) for inner in term[3]])
