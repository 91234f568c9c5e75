"""What a statement means by names, with and without a schema."""


def meant(catalog, path, schema, name):
    """Return the number of the table or view that is meant, or None."""
    schemas = path if schema is None else (schema,)
    for at in schemas:
        number = catalog.standing_at(at, name)
        if number is not None:
            return number
    return None


def schemas_ahead(catalog, path, name):
    """Return the schemas of the path ahead of the first one in which a table or view has the name."""
    ahead = []
    for schema in path:
        if catalog.standing_at(schema, name) is not None:
            return ahead
        ahead.append(schema)
    return ahead


def functions_for(catalog, path, schema, name, size):
    """Return the numbers of the functions of a call with so many terms, ascending."""
    return sorted(list(callable_functions(catalog, path, schema, name, size).values()))


def callable_functions(catalog, path, schema, name, size):
    """Return a dict of the functions of a call with so many terms: by their lists of types their numbers."""
    schemas = path if schema is None else (schema,)
    first = {}
    for at in schemas:
        for types, number in catalog.functions_named(at, name):
            if len(types) == size:
                first.setdefault(types, number)
    return first
