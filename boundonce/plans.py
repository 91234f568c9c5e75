"""Plans: what is left of a binding without names, and the form of plans."""

from boundonce.classes import Classes
from boundonce.forms import is_number, is_pair, is_tuple_of
from boundonce.names import MOST_VALUES, are_ascending, is_value
from boundonce.planforms import formed
from boundonce.terms import classes_in, mapped_terms

MOST_ROWS = 4


class Drawing:
    """The rows of a binding, with a class for each of their columns that the binding names."""

    def __init__(self):
        self.classes = Classes()
        self.rows = []

    def draw(self, binding):
        """Add the rows of a binding, and return the list of what it tells: classes, values and calls."""
        sources = [self.draw_source(source) for source in binding[2]]
        for word, column, other in binding[3]:
            number = self.term_of(column, sources)
            if word == "equal":
                self.classes.merge(number, self.term_of(other, sources))
            else:
                self.classes.narrow(number, other)
        return [self.term_of(term, sources) for _, term in binding[1]]

    def draw_source(self, source):
        """Add the rows of a source; return the row of a table, a dict, or the list of what a view tells."""
        if source[0] == "view":
            return self.draw(source[2])
        _, table, rule = source
        row = {}
        self.rows.append((table, row))
        if rule is not None:
            self.classes.narrow(self.class_of(row, rule[0]), rule[1])
        return row

    def class_of(self, row, column):
        """Return the class of a column of a row, a new one if it was not named before."""
        if column not in row:
            row[column] = self.classes.new_class()
        return row[column]

    def term_of(self, term, sources):
        """Return what a term of a binding is: a class, a value or a call."""
        if isinstance(term, str):
            return term
        if term[0] == "call":
            return ("call", term[1], tuple([self.term_of(part, sources) for part in term[2]]))
        source = sources[term[1]]
        if isinstance(source, dict):
            return self.class_of(source, term[2])
        return source[term[2]]


def plan_of(catalog, binding):
    """Return the plan of a binding."""
    drawing = Drawing()
    told = drawing.draw(binding)
    classes = drawing.classes
    known = {number: classes.term(number) for number in range(len(classes.leads))}
    rows = [(table, [(column, known[row[column]]) for column in sorted(row)]) for table, row in drawing.rows]
    lists = {number: classes.lists[number] for number in known if classes.lists[number] is not None}
    return formed(binding[0], mapped_terms(told, known), rows, lists)


def is_plan(catalog, thing):
    """Return whether any object is a plan of a catalog."""
    if not isinstance(thing, tuple) or len(thing) != 4:
        return False
    distinct, told, rows, lists = thing
    return (
        isinstance(distinct, bool)
        and isinstance(told, tuple)
        and len(told) > 0
        and isinstance(lists, tuple)
        and all([values is None or is_list(values) for values in lists])
        and is_tuple_of(rows, 1, MOST_ROWS, is_pair)
        and all([is_row(catalog, row, len(lists)) for row in rows])
        and are_terms(catalog, told, len(lists))
        and has_its_classes(catalog, thing)
    )


def is_list(thing):
    """Return whether any object is an ascending tuple of no value, or of two to eight different ones."""
    return is_tuple_of(thing, 0, MOST_VALUES, is_value) and len(thing) != 1 and are_ascending(thing)


def is_class(thing, many):
    """Return whether any object is a value or the number of one of so many classes."""
    return is_value(thing) or (is_number(thing) and 0 <= thing < many)


def is_row(catalog, row, many):
    """Return whether a pair of any objects is a row of a table of the catalog, with so many classes."""
    table, columns = row
    if not catalog.is_table(table) or not isinstance(columns, tuple):
        return False
    if not all([is_pair(pair) and is_number(pair[0]) and is_class(pair[1], many) for pair in columns]):
        return False
    named = [pair[0] for pair in columns]
    return named == sorted(set(named)) and all([column in catalog.thing_of(table)[3] for column in named])


def are_terms(catalog, told, many):
    """Return whether a tuple of any objects is of classes, values and calls of functions of the catalog."""
    # A list of what is still to be looked at: a thing may be nested as deep as anybody likes.
    waiting = list(told)
    while waiting:
        term = waiting.pop()
        if isinstance(term, tuple):
            if not is_call(catalog, term):
                return False
            waiting.extend(term[2])
        elif not is_class(term, many):
            return False
    return True


def is_call(catalog, thing):
    """Return whether a tuple is a call of a function of the catalog, with as many terms as it has types."""
    if len(thing) != 3 or thing[0] != "call" or not catalog.is_function(thing[1]):
        return False
    return isinstance(thing[2], tuple) and len(thing[2]) == len(catalog.thing_of(thing[1])[3])


def has_its_classes(catalog, plan):
    """Return whether the classes of what has the form of a plan are numbered and named as those of a plan."""
    distinct, told, rows, lists = plan
    kinds = {}
    for _, columns in rows:
        for column, term in columns:
            kind = catalog.thing_of(column)[3]
            if not isinstance(term, str) and kinds.setdefault(term, kind) != kind:
                return False
    if not all([number in kinds for number in classes_in(told)]):
        return False
    kept = {number: values for number, values in enumerate(lists) if values is not None}
    return formed(distinct, told, rows, kept) == plan
