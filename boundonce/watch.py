"""The watch of a statement: on which entries its binding stands."""

from boundonce.bindings import binding_of
from boundonce.calls import are_fewer, fitting_lists, places_cast
from boundonce.entryforms import has_entry_form
from boundonce.finding import schemas_ahead
from boundonce.forms import begins_with_word, is_number, is_same
from boundonce.names import is_name, is_type_list


class Watcher:
    """Gathers the entries of a statement and of the views that it opens, in one catalog for one role.

    Entries is a dict in which each stands once, and whole one of the tables
    whose columns are told by one entry.
    """

    def __init__(self, catalog, role):
        self.catalog = catalog
        self.role = role
        self.entries = {}
        self.whole = {}

    def watch(self, statement, path, binding):
        """Gather the entries of a statement with its binding, and of the views in it."""
        _, told, sources, conditions = statement
        labels = []
        for source, bound in zip(sources, binding[2]):
            self.watch_source(source, path, bound)
            labels.append(source[2])
        at = 0
        for item in told:
            if item[0] == "star":
                at += self.watch_star(labels.index(item[1]), binding)
            else:
                self.watch_term(item[1], binding[1][at][1], path, binding)
                at += 1
        for (word, column, other), (_, term, second) in zip(conditions, binding[3]):
            self.watch_column(column, term, binding)
            if word == "equal":
                self.watch_column(other, second, binding)

    def watch_source(self, source, path, bound):
        """Gather the entries of a source, and of the statement of a view."""
        schema, name, _ = source
        word, number, rest = bound
        thing = self.catalog.thing_of(number)
        self.entries[("at", thing[1], thing[2], number)] = True
        if schema is None:
            for ahead in schemas_ahead(self.catalog, path, name):
                self.entries[("free", ahead, name)] = True
        if word == "table":
            self.entries[("rule", self.role, number, rest)] = True
        else:
            self.watch(thing[3], thing[4], rest)

    def watch_star(self, at, binding):
        """Gather the entry of a star of a source, and return how many columns it tells."""
        word, number, rest = binding[2][at]
        if word == "view":
            return len(rest[1])
        pairs = self.catalog.named_columns_of(number)
        self.entries[("columns", number, pairs)] = True
        self.whole[number] = True
        return len(pairs)

    def watch_term(self, term, bound, path, binding):
        """Gather the entries of a value, a column or a call with what it is bound to."""
        if isinstance(term, str):
            return
        if len(term) == 2:
            self.watch_column(term, bound, binding)
            return
        for part, inner in zip(term[3], bound[2]):
            self.watch_term(part, inner, path, binding)
        self.watch_call(term, bound, path, binding)

    def watch_column(self, column, bound, binding):
        """Gather the entries of a column with what it is bound to."""
        label, name = column
        _, source, thing = bound
        word, number, _ = binding[2][source]
        if word == "table":
            self.entries[("column", number, name, thing)] = True
        if label is None:
            for at, (word, number, _) in enumerate(binding[2]):
                if word == "table" and at != source:
                    self.entries[("bare", number, name)] = True

    def watch_call(self, call, bound, path, binding):
        """Gather the entries of a call itself: the best function, and what must stay absent."""
        _, schema, name, _ = call
        number = bound[1]
        _, place, _, types, _ = self.catalog.thing_of(number)
        self.entries[("function", place, name, types, number)] = True
        if schema is None:
            for ahead in path[:path.index(place)]:
                self.entries[("unmade", ahead, name, types)] = True
        schemas = path if schema is None else (schema,)
        given = [self.type_of(term, binding) for term in bound[2]]
        places = places_cast(self.catalog, types, given)
        for other in fitting_lists(self.catalog, given):
            if other != types and not are_fewer(places, places_cast(self.catalog, other, given)):
                for at in schemas:
                    self.entries[("unmade", at, name, other)] = True

    def type_of(self, term, binding):
        """Return the type of a term of a binding, or None for a value."""
        if isinstance(term, str):
            return None
        if term[0] == "call":
            return self.catalog.thing_of(term[1])[4]
        word, _, rest = binding[2][term[1]]
        if word == "table":
            return self.catalog.thing_of(term[2])[3]
        return self.type_of(rest[1][term[2]][1], rest)

    def watched(self):
        """Return the ascending list of the entries."""
        if not self.whole:
            return sorted(self.entries)
        # The columns of a table tell each one of them, and that there is no other one.
        needless = [entry for entry in self.entries if entry[0] in ("column", "bare") and entry[1] in self.whole]
        for entry in needless:
            del self.entries[entry]
        return sorted(self.entries)


def watch_of(catalog, statement, path, role):
    """Return the watch of a statement that binds, for a path and a role."""
    return watch_with(catalog, statement, path, role, binding_of(catalog, statement, path, role))


def watch_with(catalog, statement, path, role, binding):
    """Return the watch of a statement, with its binding."""
    watcher = Watcher(catalog, role)
    watcher.watch(statement, path, binding)
    for _, number, _ in binding[2]:
        watcher.entries[("right", role, number)] = True
    return watcher.watched()


def is_entry(thing):
    """Return whether any object is an entry by its form."""
    return has_entry_form(thing)


def holds(catalog, entry):
    """Return whether an entry holds."""
    test = TESTS[entry[0]]
    return test(catalog, entry)


def is_true(catalog, thing):
    """Return whether any object is an entry that holds."""
    if not begins_with_word(thing) or thing[0] not in TESTS:
        return False
    test = TESTS[thing[0]]
    return test(catalog, thing)


# Each of these takes any tuple that begins with its word. Where something stands
# or is had, its names and numbers are names and numbers; where nothing is, they are looked at.


def stands_at(catalog, thing):
    """Return whether a tuple is ("at", schema, name, number), and holds."""
    return len(thing) == 4 and is_number(thing[3]) and catalog.standing_at(thing[1], thing[2]) == thing[3]


def is_free(catalog, thing):
    """Return whether a tuple is ("free", schema, name), and holds."""
    return (
        len(thing) == 3
        and is_name(thing[1])
        and is_name(thing[2])
        and catalog.standing_at(thing[1], thing[2]) is None
    )


def has_column(catalog, thing):
    """Return whether a tuple is ("column", table, name, number), and holds."""
    return len(thing) == 4 and is_number(thing[3]) and catalog.column_of(thing[1], thing[2]) == thing[3]


def is_bare(catalog, thing):
    """Return whether a tuple is ("bare", table, name), and holds: not so if there is no such table."""
    return (
        len(thing) == 3
        and is_name(thing[2])
        and catalog.is_table(thing[1])
        and catalog.column_of(thing[1], thing[2]) is None
    )


def has_columns(catalog, thing):
    """Return whether a tuple is ("columns", table, pairs), and holds."""
    return len(thing) == 3 and catalog.is_table(thing[1]) and is_same(thing[2], catalog.named_columns_of(thing[1]))


def has_function(catalog, thing):
    """Return whether a tuple is ("function", schema, name, types, number), and holds."""
    return (
        len(thing) == 5
        and is_number(thing[4])
        and catalog.function_at(thing[1], thing[2], thing[3]) == thing[4]
    )


def is_unmade(catalog, thing):
    """Return whether a tuple is ("unmade", schema, name, types), and holds."""
    return (
        len(thing) == 4
        and is_name(thing[1])
        and is_name(thing[2])
        and is_type_list(thing[3])
        and catalog.function_at(thing[1], thing[2], thing[3]) is None
    )


def has_right(catalog, thing):
    """Return whether a tuple is ("right", role, number), and holds."""
    return len(thing) == 3 and catalog.has_right(thing[1], thing[2])


def has_rule(catalog, thing):
    """Return whether a tuple is ("rule", role, table, rule), and holds: not so if there is no such table."""
    if len(thing) != 4 or not is_name(thing[1]) or not catalog.is_table(thing[2]):
        return False
    rule = catalog.rule_for(thing[1], thing[2])
    return thing[3] is None if rule is None else is_same(thing[3], rule)


TESTS = {
    "at": stands_at,
    "free": is_free,
    "column": has_column,
    "bare": is_bare,
    "columns": has_columns,
    "function": has_function,
    "unmade": is_unmade,
    "right": has_right,
    "rule": has_rule,
}
