"""Binding: what each word of a statement means in a catalog, for a path and a role.

Within a binder a column is told by a tuple (term, type, called): how it stands
in the binding, its type (None for a value), and whether it is a call, also
through views.
"""

from boundonce.calls import best_function
from boundonce.errors import Ambiguous, BoundError, Mismatch, NoRight, OnCall, Ring, Unknown
from boundonce.finding import meant


class Binder:
    """Binds statements in one catalog for one role, and keeps where it is.

    What refuses a statement is raised. Then opening, part and index tell where
    that is: within which views, and at what there.
    """

    def __init__(self, catalog, role):
        self.catalog = catalog
        self.role = role
        self.opening = []
        self.part = "source"
        self.index = 0
        self.opened = {}

    def bind(self, statement, path):
        """Return the binding of a statement, and a list of what it tells: pairs (name, column)."""
        distinct, told, sources, conditions = statement
        found = self.bind_sources(sources, path)
        columns = []
        self.part = "told"
        for index, item in enumerate(told):
            self.index = index
            if item[0] == "star":
                columns.extend(columns_of_star(item[1], found))
            else:
                columns.append((item[2], self.bind_term(item[1], found, path)))
        bound = []
        self.part = "condition"
        for index, condition in enumerate(conditions):
            self.index = index
            bound.append(bind_condition(condition, found))
        terms = tuple([(name, column[0]) for name, column in columns])
        return (distinct, terms, tuple([source[1] for source in found]), tuple(bound)), columns

    def bind_sources(self, sources, path):
        """Return a list with a tuple (label, bound, columns, calls) for each source.

        Columns is a dict by names of pairs: the number, of a view the index,
        and the type. Calls is a dict of the names of those that are calls.
        """
        found = []
        for index, (schema, name, label) in enumerate(sources):
            self.part, self.index = "source", index
            number = meant(self.catalog, path, schema, name)
            if number is None:
                raise Unknown("nothing stands there")
            if not self.opening and not self.catalog.has_right(self.role, number):
                raise NoRight("the role does not have the right on a source")
            if self.catalog.is_table(number):
                bound = ("table", number, self.catalog.rule_for(self.role, number))
                found.append((label, bound, self.catalog.columns_of(number), {}))
            else:
                found.append((label,) + self.open_view(number))
        return found

    def open_view(self, number):
        """Return how a view stands in a binding, a dict of its columns, and one of those that are calls."""
        if number in self.opening:
            raise Ring("a view is opened within itself")
        # A view that could be opened reaches no ring, so it is opened alike wherever it stands.
        if number not in self.opened:
            statement, path = self.catalog.thing_of(number)[3:]
            self.opening.append(number)
            binding, told = self.bind(statement, path)
            self.opening.pop()
            columns = {name: (at, column[1]) for at, (name, column) in enumerate(told)}
            calls = {name: True for name, column in told if column[2]}
            self.opened[number] = (("view", number, binding), columns, calls)
        return self.opened[number]

    def bind_term(self, term, sources, path):
        """Return the column of a term."""
        if isinstance(term, str):
            return (term, None, False)
        if len(term) == 2:
            return find_column(term, sources)
        schema, name, terms = term[1:]
        inner = [self.bind_term(part, sources, path) for part in terms]
        number = best_function(self.catalog, path, schema, name, tuple([column[1] for column in inner]))
        call = ("call", number, tuple([column[0] for column in inner]))
        return (call, self.catalog.thing_of(number)[4], True)


def columns_of_star(label, sources):
    """Return the pairs (name, column) of all columns of the source with a label."""
    for at, (other, _, columns, calls) in enumerate(sources):
        if other == label:
            return [(name, column_at(at, columns[name], name in calls)) for name in columns]
    raise Unknown("no source has the label")


def column_at(at, column, called):
    """Return a column of a source as it is told outside of the source."""
    thing, kind = column
    return (("column", at, thing), kind, called)


def find_column(column, sources):
    """Return what a column with a label, perhaps None, and a name means."""
    label, name = column
    found = None
    for at, (other, _, columns, calls) in enumerate(sources):
        if name in columns and (label is None or label == other):
            if found is not None:
                raise Ambiguous("several sources have the column")
            found = column_at(at, columns[name], name in calls)
    if found is None:
        raise Unknown("no source has the column")
    return found


def find_compared(column, sources):
    """Return what a column of a condition means, and its type."""
    term, kind, called = find_column(column, sources)
    if called:
        raise OnCall("a condition has a column that is a call")
    return term, kind


def bind_condition(condition, sources):
    """Return a condition as it stands in a binding."""
    word, column, other = condition
    term, kind = find_compared(column, sources)
    if word == "in":
        return ("in", term, other)
    second, second_kind = find_compared(other, sources)
    if kind != second_kind:
        raise Mismatch("the columns of a condition have different types")
    return ("equal", term, second)


def bound_or_none(catalog, statement, path, role):
    """Return the binding of a statement, or None if it is refused."""
    try:
        return Binder(catalog, role).bind(statement, path)[0]
    except BoundError:
        return None
