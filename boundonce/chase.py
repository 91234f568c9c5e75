"""What facts force: rows that must be there, rows that are one, and the cases that are left."""

from boundonce.classes import Classes
from boundonce.terms import in_order, mapped_terms


class Tableau:
    """Rows of tables with a class for each column, to which is done what facts force.

    A row keeps its number when it is found to be another one; then it leads to
    that one, which stands. Behind settle a tableau that has not failed is a
    case, unless a class of it is still to be cut.
    """

    def __init__(self, shapes):
        self.shapes = shapes
        self.classes = Classes()
        self.rows = []
        self.leads = []
        self.standing = []

    def copied(self):
        """Return the same once more."""
        other = Tableau(self.shapes)
        other.classes = self.classes.copied()
        other.rows = list(self.rows)
        other.leads = list(self.leads)
        other.standing = list(self.standing)
        return other

    def add_row(self, table, given):
        """Add a row, with the classes that are given by their places and new ones at all others."""
        shape = self.shapes.shape_of(table)
        classes = []
        for at in range(len(shape.columns)):
            classes.append(given[at] if at in given else self.classes.new_class())
        for at, values in shape.limits:
            self.classes.narrow(classes[at], values)
        number = len(self.rows)
        self.rows.append((table, classes))
        self.leads.append(number)
        self.standing.append(number)

    def add_referred(self):
        """Add the rows to which references lead, as far as they are not there."""
        at = 0
        while at < len(self.rows):
            table, classes = self.rows[at]
            for here, other, columns in self.shapes.shape_of(table).references:
                there = self.shapes.shape_of(other).places_of(columns)
                wanted = [classes[place] for place in here]
                if not self.has_row(other, there, wanted):
                    self.add_row(other, {place: wanted[k] for k, place in enumerate(there)})
            at += 1

    def has_row(self, table, places, wanted):
        """Return whether a row of a table has these classes at these places."""
        terms = [self.classes.term(number) for number in wanted]
        for other, classes in self.rows:
            if other == table and [self.classes.term(classes[place]) for place in places] == terms:
                return True
        return False

    def settle(self):
        """Make rows one that agree in a key, until none do any more."""
        while not self.classes.failed and self.merge_rows():
            pass

    def merge_rows(self):
        """Make rows one that are seen to agree in a key, and return whether there were any."""
        seen = {}
        left = []
        for number in self.standing:
            places = self.key_places(number)
            other = first_known(places, seen)
            if other is None:
                left.append(number)
                for place in places:
                    seen[place] = number
            else:
                self.leads[number] = other
                for one, two in zip(self.rows[other][1], self.rows[number][1]):
                    self.classes.merge(one, two)
        merged = len(left) < len(self.standing)
        self.standing = left
        return merged

    def key_places(self, number):
        """Return a tuple for each key of a row, which is equal for rows that agree in it."""
        table, classes = self.rows[number]
        found = []
        for at, key in enumerate(self.shapes.shape_of(table).unique):
            found.append((table, at) + tuple([self.classes.term(classes[place]) for place in key]))
        return found

    def are_one(self, one, other):
        """Return whether two rows were found to be one."""
        return self.row_of(one) == self.row_of(other)

    def row_of(self, number):
        """Return the standing row to which a row leads."""
        while self.leads[number] != number:
            number = self.leads[number]
        return number

    def cut(self):
        """Return the list of what the tableau is cut into, a copy for each value of a class, or None."""
        number = self.classes.class_to_cut()
        if number is None:
            return None
        found = []
        values = self.classes.lists[number]
        for value in values:
            other = self.copied()
            other.classes.narrow(number, (value,))
            found.append(other)
        return found


def first_known(places, seen):
    """Return what a dict has for the first of some places that is in it, or None."""
    for place in places:
        if place in seen:
            return seen[place]
    return None


def tableau_of(shapes, plan):
    """Return a tableau with the rows of a plan, and the list of the classes of its numbered ones."""
    tableau = Tableau(shapes)
    numbers = [tableau.classes.new_class(values) for values in plan[3]]
    tableau.classes.failed = () in plan[3]
    add_rows(tableau, plan, numbers)
    return tableau, numbers


def add_rows(tableau, plan, numbers):
    """Add the rows of a plan, whose numbered classes are these ones in the tableau."""
    for table, columns in plan[2]:
        places = tableau.shapes.shape_of(table).places
        given = {}
        for column, term in columns:
            if isinstance(term, str):
                given[places[column]] = tableau.classes.new_class((term,))
            else:
                given[places[column]] = numbers[term]
        tableau.add_row(table, given)


def leaves_of(tableau):
    """Return the list of what is left of a tableau when all is done that facts force."""
    tableau.add_referred()
    found = []
    waiting = [tableau]
    while waiting:
        one = waiting.pop()
        one.settle()
        if one.classes.failed:
            continue
        parts = one.cut()
        if parts is None:
            found.append(one)
        else:
            waiting.extend(parts)
    return found


def case_of(tableau, told, numbers):
    """Return the case that is left, with classes numbered from 0 on as they stand in what is told, then in rows."""
    classes = tableau.classes
    terms = mapped_terms(told, {at: classes.term(number) for at, number in enumerate(numbers)})
    rows = []
    for number in tableau.standing:
        table, parts = tableau.rows[number]
        rows.append((table, [classes.term(part) for part in parts]))
    return in_order(terms, rows)


def cases_by(shapes, plan):
    """Return the list of the cases of a plan by the facts of shapes."""
    tableau, numbers = tableau_of(shapes, plan)
    return [case_of(leaf, plan[1], numbers) for leaf in leaves_of(tableau)]
