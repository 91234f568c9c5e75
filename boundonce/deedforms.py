"""The forms of deeds: what stands at each place of a deed of each kind."""

from boundonce.forms import are_different, begins_with_word, have_forms, is_pair, is_tuple_of
from boundonce.names import is_name, is_type_list, is_values
from boundonce.statements import is_path, is_view_statement

MOST_COLUMNS = 8
MOST_IN_FACT = 3

DEED_FORMS = {
    "table": ("name", "name", "columns"),
    "view": ("name", "name", "statement", "path"),
    "function": ("name", "name", "types", "name"),
    "drop": ("name", "name"),
    "drop function": ("name", "name", "types"),
    "rename": ("name", "name", "name"),
    "rename function": ("name", "name", "types", "name"),
    "rename column": ("name", "name", "name", "name"),
    "column": ("name", "name", "name", "name"),
    "drop column": ("name", "name", "name"),
    "fact": ("name", "name", "fact"),
    "drop fact": ("name", "name", "fact"),
    "grant": ("name", "name", "name"),
    "revoke": ("name", "name", "name"),
    "rule": ("name", "name", "name", "name", "values"),
    "drop rule": ("name", "name", "name"),
}

FACT_FORMS = {
    "key": ("different",),
    "in": ("name", "values"),
    "ref": ("names", "name", "name", "different"),
}


def has_deed_form(thing):
    """Return whether any object is a deed by its form."""
    if not begins_with_word(thing) or thing[0] not in DEED_FORMS:
        return False
    return have_forms(thing[1:], DEED_FORMS[thing[0]], has_form)


def has_fact_form(thing):
    """Return whether any object is a fact with names, as a deed has it."""
    if not begins_with_word(thing) or thing[0] not in FACT_FORMS:
        return False
    if not have_forms(thing[1:], FACT_FORMS[thing[0]], has_form):
        return False
    return thing[0] != "ref" or len(thing[1]) == len(thing[4])


def has_form(thing, form):
    """Return whether any object has the form with this word."""
    if form == "name":
        return is_name(thing)
    if form == "names":
        return is_tuple_of(thing, 1, MOST_IN_FACT, is_name)
    if form == "different":
        return is_tuple_of(thing, 1, MOST_IN_FACT, is_name) and are_different(thing)
    if form == "values":
        return is_values(thing)
    if form == "types":
        return is_type_list(thing)
    if form == "columns":
        return are_new_columns(thing)
    if form == "statement":
        return is_view_statement(thing)
    if form == "path":
        return is_path(thing)
    return has_fact_form(thing)


def are_new_columns(thing):
    """Return whether any object is the columns of a table that is created."""
    return is_tuple_of(thing, 1, MOST_COLUMNS, is_new_column) and are_different([pair[0] for pair in thing])


def is_new_column(thing):
    """Return whether any object is the name of a column and its type."""
    return is_pair(thing) and is_name(thing[0]) and is_name(thing[1])
