"""Lists of entries: whether they are enough for a binding, and deeds that break entries."""

from boundonce.binder import bound_or_none
from boundonce.bindings import binding_of
from boundonce.deeds import after_deed
from boundonce.errors import BoundError, InvalidEntry
from boundonce.names import is_name, word_at
from boundonce.watch import holds, is_true, watch_with


def breaking_deed(catalog, statement, path, role, entry):
    """Return a deed behind which this entry of the watch does not hold, and all others do."""
    binding = binding_of(catalog, statement, path, role)
    # All entries of the watch hold, so for most of what is none of them the watch is not needed.
    if not is_true(catalog, entry):
        raise InvalidEntry("this is no entry that holds")
    watch = watch_with(catalog, statement, path, role, binding)
    if entry not in watch:
        raise InvalidEntry("this is no entry of the watch")
    return deed_against(catalog, entry, watch)


def is_enough(catalog, statement, path, role, entries):
    """Return whether the statement has this binding wherever a list of entries that hold does."""
    return first_open(catalog, statement, path, role, entries) is None


def parting_deed(catalog, statement, path, role, entries):
    """Return a deed behind which all entries hold and the statement does not have its binding, or None."""
    entry = first_open(catalog, statement, path, role, entries)
    return None if entry is None else deed_against(catalog, entry, entries)


def is_parting(catalog, statement, path, role, entries, thing):
    """Return whether any object is a deed behind which all entries hold and the statement has another binding."""
    binding = binding_of(catalog, statement, path, role)
    need_entries(catalog, entries)
    try:
        behind = after_deed(catalog, thing)
    except BoundError:
        return False
    for entry in entries:
        if not holds(behind, entry):
            return False
    return bound_or_none(behind, statement, path, role) != binding


def need_entries(catalog, thing):
    """Refuse any object that is no list of entries that hold."""
    if not isinstance(thing, list):
        raise InvalidEntry("this is no list of entries")
    for entry in thing:
        if not is_true(catalog, entry):
            raise InvalidEntry("this is no list of entries that hold")


def first_open(catalog, statement, path, role, entries):
    """Return the first entry of the watch that may break while all of a list hold, or None."""
    binding = binding_of(catalog, statement, path, role)
    need_entries(catalog, entries)
    known = {entry: True for entry in entries}
    whole = {entry[1]: True for entry in entries if entry[0] == "columns"}
    for entry in watch_with(catalog, statement, path, role, binding):
        # Of all entries only the columns of a table tell something that another kind tells, too.
        if entry not in known and not (entry[0] in ("column", "bare") and entry[1] in whole):
            return entry
    return None


def deed_against(catalog, entry, others):
    """Return a deed that breaks an entry that holds, and none of some others that do not tell the same."""
    making = DEEDS[entry[0]]
    return making(catalog, entry[1:], fresh_name(catalog, others))


def fresh_name(catalog, entries):
    """Return a name that no thing of the catalog has and no entry tells."""
    used = {}
    for number in catalog.all_numbers:
        for part in catalog.thing_of(number)[1:3]:
            used[part] = True
    for entry in entries:
        for part in entry:
            used[part] = True
    at = 0
    while word_at(at) in used or not is_name(word_at(at)):
        at += 1
    return word_at(at)


def place_of(catalog, number):
    """Return the schema and the name of a table, view or function."""
    return catalog.thing_of(number)[1:3]


def rename_standing(catalog, parts, fresh):
    """Break ("at", schema, name, number)."""
    return ("rename", parts[0], parts[1], fresh)


def make_table(catalog, parts, fresh):
    """Break ("free", schema, name)."""
    return ("table", parts[0], parts[1], ((fresh, catalog.types[0]),))


def rename_column(catalog, parts, fresh):
    """Break ("column", table, name, number)."""
    return ("rename column", *place_of(catalog, parts[0]), parts[1], fresh)


def make_column(catalog, parts, fresh):
    """Break ("bare", table, name)."""
    return ("column", *place_of(catalog, parts[0]), parts[1], catalog.types[0])


def make_other_column(catalog, parts, fresh):
    """Break ("columns", table, pairs)."""
    return ("column", *place_of(catalog, parts[0]), fresh, catalog.types[0])


def rename_function(catalog, parts, fresh):
    """Break ("function", schema, name, types, number)."""
    return ("rename function", parts[0], parts[1], parts[2], fresh)


def make_function(catalog, parts, fresh):
    """Break ("unmade", schema, name, types)."""
    return ("function", parts[0], parts[1], parts[2], catalog.types[0])


def revoke(catalog, parts, fresh):
    """Break ("right", role, number)."""
    return ("revoke", parts[0], *place_of(catalog, parts[1]))


def change_rule(catalog, parts, fresh):
    """Break ("rule", role, table, rule)."""
    role, table, rule = parts
    if rule is not None:
        return ("drop rule", role, *place_of(catalog, table))
    column = catalog.thing_of(catalog.thing_of(table)[3][0])[2]
    return ("rule", role, *place_of(catalog, table), column, (fresh,))


DEEDS = {
    "at": rename_standing,
    "free": make_table,
    "column": rename_column,
    "bare": make_column,
    "columns": make_other_column,
    "function": rename_function,
    "unmade": make_function,
    "right": revoke,
    "rule": change_rule,
}
