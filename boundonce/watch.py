"""The watch of a statement: on which entries its binding stands."""

from boundonce.bindings import binding_of
from boundonce.calls import are_fewer, places_cast
from boundonce.entryforms import has_entry_form
from boundonce.finding import schemas_ahead, type_lists


class Watcher:
    """Gathers the entries of a statement and of the views that it opens, in one catalog for one role."""

    def __init__(self, catalog, role):
        self.catalog = catalog
        self.role = role
        self.entries = {}

    def note(self, entry):
        """Keep an entry, once."""
        self.entries[entry] = True

    def watch(self, statement, path, binding):
        """Gather the entries of a statement with its binding, and of the views in it."""
        _, told, sources, conditions = statement
        labels = []
        for source, bound in zip(sources, binding[2]):
            self.watch_source(source, path, bound)
            labels.append(source[2])
        at = 0
        for item in told:
            if item[0] == "star":
                at += self.watch_star(labels.index(item[1]), binding)
            else:
                self.watch_term(item[1], binding[1][at][1], path, binding)
                at += 1
        for (word, column, other), (_, term, second) in zip(conditions, binding[3]):
            self.watch_term(column, term, path, binding)
            if word == "equal":
                self.watch_term(other, second, path, binding)

    def watch_source(self, source, path, bound):
        """Gather the entries of a source, and of the statement of a view."""
        schema, name, _ = source
        word, number, rest = bound
        place, own_name = self.catalog.thing_of(number)[1:3]
        self.note(("at", place, own_name, number))
        if schema is None:
            for ahead in schemas_ahead(self.catalog, path, name):
                self.note(("free", ahead, name))
        if word == "table":
            self.note(("rule", self.role, number, rest))
        else:
            statement, path = self.catalog.thing_of(number)[3:]
            self.watch(statement, path, rest)

    def watch_star(self, at, binding):
        """Gather the entry of a star of a source, and return how many columns it tells."""
        word, number, rest = binding[2][at]
        if word == "view":
            return len(rest[1])
        pairs = tuple(self.catalog.columns_of(number))
        self.note(("columns", number, pairs))
        return len(pairs)

    def watch_term(self, term, bound, path, binding):
        """Gather the entries of a column or a call with what it is bound to."""
        if isinstance(term, str):
            return
        if len(term) == 4:
            for part, inner in zip(term[3], bound[2]):
                self.watch_term(part, inner, path, binding)
            self.watch_call(term, bound, path, binding)
            return
        label, name = term
        for at, (word, number, _) in enumerate(binding[2]):
            if word == "table" and at == bound[1]:
                self.note(("column", number, name, bound[2]))
            elif word == "table" and label is None:
                self.note(("bare", number, name))

    def watch_call(self, call, bound, path, binding):
        """Gather the entries of a call itself: the best function, and what must stay absent."""
        schema, name = call[1:3]
        number = bound[1]
        place, _, types = self.catalog.thing_of(number)[1:4]
        self.note(("function", place, name, types, number))
        if schema is None:
            for ahead in path[:path.index(place)]:
                self.note(("unmade", ahead, name, types))
        schemas = path if schema is None else (schema,)
        given = [self.type_of(term, binding) for term in bound[2]]
        places = places_cast(self.catalog, types, given)
        for other in type_lists(self.catalog, len(types)):
            others = places_cast(self.catalog, other, given)
            if other != types and others is not None and not are_fewer(places, others):
                for at in schemas:
                    self.note(("unmade", at, name, other))

    def type_of(self, term, binding):
        """Return the type of a term of a binding, or None for a value."""
        if isinstance(term, str):
            return None
        if term[0] == "call":
            return self.catalog.thing_of(term[1])[4]
        word, _, rest = binding[2][term[1]]
        if word == "table":
            return self.catalog.thing_of(term[2])[3]
        return self.type_of(rest[1][term[2]][1], rest)


def watch_of(catalog, statement, path, role):
    """Return the watch of a statement that binds, for a path and a role."""
    binding = binding_of(catalog, statement, path, role)
    watcher = Watcher(catalog, role)
    watcher.watch(statement, path, binding)
    for source in binding[2]:
        watcher.note(("right", role, source[1]))
    whole = [entry[1] for entry in watcher.entries if entry[0] == "columns"]
    # The columns of a table tell each one of them, and that there is no other one.
    return sorted([entry for entry in watcher.entries if entry[0] not in ("column", "bare") or entry[1] not in whole])


def is_entry(thing):
    """Return whether any object is an entry by its form."""
    return has_entry_form(thing)


def holds(catalog, entry):
    """Return whether an entry holds."""
    test = TESTS[entry[0]]
    return test(catalog, entry[1:])


def stands_at(catalog, parts):
    """Return whether ("at", schema, name, number) holds."""
    schema, name, number = parts
    return catalog.standing_at(schema, name) == number


def is_free(catalog, parts):
    """Return whether ("free", schema, name) holds."""
    schema, name = parts
    return catalog.standing_at(schema, name) is None


def has_column(catalog, parts):
    """Return whether ("column", table, name, number) holds."""
    table, name, number = parts
    return catalog.column_of(table, name) == number


def is_bare(catalog, parts):
    """Return whether ("bare", table, name) holds: not so if there is no such table."""
    table, name = parts
    return catalog.is_table(table) and catalog.column_of(table, name) is None


def has_columns(catalog, parts):
    """Return whether ("columns", table, pairs) holds."""
    table, pairs = parts
    return catalog.is_table(table) and tuple(catalog.columns_of(table)) == pairs


def has_function(catalog, parts):
    """Return whether ("function", schema, name, types, number) holds."""
    schema, name, types, number = parts
    return catalog.function_at(schema, name, types) == number


def is_unmade(catalog, parts):
    """Return whether ("unmade", schema, name, types) holds."""
    schema, name, types = parts
    return catalog.function_at(schema, name, types) is None


def has_right(catalog, parts):
    """Return whether ("right", role, number) holds."""
    role, number = parts
    return catalog.has_right(role, number)


def has_rule(catalog, parts):
    """Return whether ("rule", role, table, rule) holds: not so if there is no such table."""
    role, table, rule = parts
    return catalog.is_table(table) and catalog.rule_for(role, table) == rule


TESTS = {
    "at": stands_at,
    "free": is_free,
    "column": has_column,
    "bare": is_bare,
    "columns": has_columns,
    "function": has_function,
    "unmade": is_unmade,
    "right": has_right,
    "rule": has_rule,
}
