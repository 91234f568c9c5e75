"""What a statement means by names, with and without a schema."""


def meant(catalog, path, schema, name):
    """Return the number of the table or view that is meant, or None."""
    schemas = path if schema is None else (schema,)
    for at in schemas:
        number = catalog.standing_at(at, name)
        if number is not None:
            return number
    return None


def schemas_ahead(catalog, path, name):
    """Return the schemas of the path ahead of the first one in which a table or view has the name."""
    ahead = []
    for schema in path:
        if catalog.standing_at(schema, name) is not None:
            return ahead
        ahead.append(schema)
    return ahead


def functions_for(catalog, path, schema, name, size):
    """Return the numbers of the functions of a call with so many terms, ascending."""
    schemas = path if schema is None else (schema,)
    first = {}
    for at in schemas:
        for types, number in catalog.functions_named(at, name):
            if len(types) == size:
                first.setdefault(types, number)
    return sorted(first.values())


def type_lists(catalog, size):
    """Return the lists of one or two types with which a function of the catalog may stand."""
    if size == 1:
        return [(one,) for one in catalog.types]
    return [(one, two) for one in catalog.types for two in catalog.types]
