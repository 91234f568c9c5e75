"""What each kind of deed does.

Each function here looks things up in the catalog, which stays as it is, and
changes the holding, a copy of what the catalog holds. All that a deed may be
refused for is looked at in the order of the errors: Unknown, Taken, Unfit.
"""

from boundonce.errors import Taken, Unfit, Unknown


def need_types(catalog, names):
    """Refuse names that are not all types of the catalog."""
    for name in names:
        if name not in catalog.types:
            raise Unknown("the catalog has no such type")


def need_free(catalog, schema, name):
    """Refuse a place at which a table or view stands."""
    if catalog.standing_at(schema, name) is not None:
        raise Taken("a table or view stands there already")


def need_free_function(catalog, schema, name, types):
    """Refuse a name and a list with which a function stands."""
    if catalog.function_at(schema, name, types) is not None:
        raise Taken("a function stands there already")


def need_free_column(catalog, table, name):
    """Refuse a name that a column of the table has."""
    if catalog.column_of(table, name) is not None:
        raise Taken("the table has a column of this name already")


def number_at(catalog, schema, name):
    """Return the number of the table or view that must stand there."""
    number = catalog.standing_at(schema, name)
    if number is None:
        raise Unknown("no table or view stands there")
    return number


def table_at(catalog, schema, name):
    """Return the number of the table that must stand there."""
    number = number_at(catalog, schema, name)
    if not catalog.is_table(number):
        raise Unknown("a view stands there, and no table")
    return number


def function_at(catalog, schema, name, types):
    """Return the number of the function that must stand there."""
    number = catalog.function_at(schema, name, types)
    if number is None:
        raise Unknown("no function stands there")
    return number


def column_at(catalog, table, name):
    """Return the number of a column that the table must have."""
    number = catalog.column_of(table, name)
    if number is None:
        raise Unknown("the table has no such column")
    return number


def make_table(catalog, holding, parts):
    """Do ("table", schema, name, columns)."""
    schema, name, columns = parts
    need_types(catalog, [column[1] for column in columns])
    need_free(catalog, schema, name)
    holding.add_table(schema, name, columns)


def make_view(catalog, holding, parts):
    """Do ("view", schema, name, statement, path)."""
    schema, name, statement, path = parts
    need_free(catalog, schema, name)
    holding.add_view(("view", schema, name, statement, path))


def make_function(catalog, holding, parts):
    """Do ("function", schema, name, types, result)."""
    schema, name, types, result = parts
    need_types(catalog, types + (result,))
    need_free_function(catalog, schema, name, types)
    holding.add_function(("function", schema, name, types, result))


def drop_standing(catalog, holding, parts):
    """Do ("drop", schema, name)."""
    schema, name = parts
    holding.drop_standing(number_at(catalog, schema, name))


def drop_function(catalog, holding, parts):
    """Do ("drop function", schema, name, types)."""
    schema, name, types = parts
    holding.drop_function(function_at(catalog, schema, name, types))


def rename_standing(catalog, holding, parts):
    """Do ("rename", schema, name, other)."""
    schema, name, other = parts
    number = number_at(catalog, schema, name)
    need_free(catalog, schema, other)
    holding.rename_standing(number, other)


def rename_function(catalog, holding, parts):
    """Do ("rename function", schema, name, types, other)."""
    schema, name, types, other = parts
    number = function_at(catalog, schema, name, types)
    need_free_function(catalog, schema, other, types)
    holding.rename_function(number, other)


def rename_column(catalog, holding, parts):
    """Do ("rename column", schema, name, column, other)."""
    schema, name, column, other = parts
    table = table_at(catalog, schema, name)
    number = column_at(catalog, table, column)
    need_free_column(catalog, table, other)
    holding.rename_column(number, other)


def add_column(catalog, holding, parts):
    """Do ("column", schema, name, column, type)."""
    schema, name, column, kind = parts
    table = table_at(catalog, schema, name)
    need_types(catalog, [kind])
    need_free_column(catalog, table, column)
    holding.add_column(table, column, kind)


def drop_column(catalog, holding, parts):
    """Do ("drop column", schema, name, column)."""
    schema, name, column = parts
    table = table_at(catalog, schema, name)
    number = column_at(catalog, table, column)
    if catalog.thing_of(table)[3] == (number,):
        raise Unfit("a table keeps one column")
    holding.drop_column(table, number)


def declare_fact(catalog, holding, parts):
    """Do ("fact", schema, name, fact)."""
    schema, name, form = parts
    table = table_at(catalog, schema, name)
    fact = numbered_fact(catalog, table, form)
    if fact in catalog.facts_of(table):
        raise Taken("the fact is declared already")
    if fact[0] == "ref":
        need_fit(catalog, table, fact)
    holding.add_fact(table, fact)


def drop_fact(catalog, holding, parts):
    """Do ("drop fact", schema, name, fact)."""
    schema, name, form = parts
    table = table_at(catalog, schema, name)
    fact = numbered_fact(catalog, table, form)
    if fact not in catalog.facts_of(table):
        raise Unknown("the fact is not declared")
    holding.drop_fact(table, fact)


def numbered_fact(catalog, table, form):
    """Return the fact that a form with names tells of a table."""
    if form[0] == "key":
        return ("key", tuple(sorted([column_at(catalog, table, name) for name in form[1]])))
    if form[0] == "in":
        return ("in", column_at(catalog, table, form[1]), form[2])
    columns, schema, name, others = form[1:]
    other = table_at(catalog, schema, name)
    # Sorted as pairs, so that each column stays with the one that belongs to it.
    pairs = sorted(
        [
            (column_at(catalog, other, there), column_at(catalog, table, here))
            for here, there in zip(columns, others)
        ]
    )
    return ("ref", tuple([pair[1] for pair in pairs]), other, tuple([pair[0] for pair in pairs]))


def need_fit(catalog, table, fact):
    """Refuse a reference of a table that leads to no key, to other types, or round in a ring."""
    columns, other, others = fact[1:]
    if ("key", others) not in catalog.facts_of(other):
        raise Unfit("a reference leads to a declared key")
    if [catalog.thing_of(column)[3] for column in columns] != [catalog.thing_of(column)[3] for column in others]:
        raise Unfit("the types of the columns are not equal one for one")
    if table in tables_reached(catalog, other):
        raise Unfit("references make no ring")


def tables_reached(catalog, table):
    """Return a dict of a table and all tables to which references lead from it."""
    reached = {table: True}
    waiting = [table]
    while waiting:
        at = waiting.pop()
        for fact in catalog.facts_of(at):
            if fact[0] == "ref" and fact[2] not in reached:
                reached[fact[2]] = True
                waiting.append(fact[2])
    return reached


def grant(catalog, holding, parts):
    """Do ("grant", role, schema, name)."""
    role, schema, name = parts
    number = number_at(catalog, schema, name)
    if catalog.has_right(role, number):
        raise Taken("the role has the right already")
    holding.grant(role, number)


def revoke(catalog, holding, parts):
    """Do ("revoke", role, schema, name)."""
    role, schema, name = parts
    number = number_at(catalog, schema, name)
    if not catalog.has_right(role, number):
        raise Unknown("the role does not have the right")
    holding.revoke(role, number)


def set_rule(catalog, holding, parts):
    """Do ("rule", role, schema, name, column, values)."""
    role, schema, name, column, values = parts
    table = table_at(catalog, schema, name)
    holding.set_rule(role, table, (column_at(catalog, table, column), values))


def drop_rule(catalog, holding, parts):
    """Do ("drop rule", role, schema, name)."""
    role, schema, name = parts
    table = table_at(catalog, schema, name)
    if catalog.rule_for(role, table) is None:
        raise Unknown("the role has no rule for the table")
    holding.drop_rule(role, table)


CHANGES = {
    "table": make_table,
    "view": make_view,
    "function": make_function,
    "drop": drop_standing,
    "drop function": drop_function,
    "rename": rename_standing,
    "rename function": rename_function,
    "rename column": rename_column,
    "column": add_column,
    "drop column": drop_column,
    "fact": declare_fact,
    "drop fact": drop_fact,
    "grant": grant,
    "revoke": revoke,
    "rule": set_rule,
    "drop rule": drop_rule,
}


def change(catalog, holding, deed):
    """Do a deed, in the form of one, to a copy of what the catalog holds."""
    action = CHANGES[deed[0]]
    action(catalog, holding, deed[1:])
