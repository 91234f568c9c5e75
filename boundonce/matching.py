"""How plans and cases lead into cases: told to told, and row to row."""


class TermMap:
    """What classes stand for in a case, as far as it is known; those below say which classes may."""

    def maps(self, term, other):
        """Return whether a term leads to one of the case; what was open about it is known from then on."""
        if isinstance(term, tuple):
            return isinstance(other, tuple) and term[1] == other[1] and self.maps_all(term[2], other[2])
        if isinstance(term, str) or isinstance(other, tuple):
            return term == other
        return self.maps_class(term, other)

    def maps_all(self, terms, others):
        """Return whether terms lead to those of the case, one for one."""
        if len(terms) != len(others):
            return False
        for term, other in zip(terms, others):
            if not self.maps(term, other):
                return False
        return True


class CaseMap(TermMap):
    """What the classes of a case stand for in another one: classes, one for one."""

    def __init__(self):
        self.forth = {}
        self.back = {}

    def copied(self):
        """Return the same once more."""
        other = CaseMap()
        other.forth = dict(self.forth)
        other.back = dict(self.back)
        return other

    def maps_class(self, number, other):
        """Return whether a class leads to a class, and no other one does."""
        if isinstance(other, str):
            return False
        return self.forth.setdefault(number, other) == other and self.back.setdefault(other, number) == number


class PlanMap(TermMap):
    """What the classes of a plan stand for in a case: classes and values, one with a list for a value of it."""

    def __init__(self, lists):
        self.lists = lists
        self.forth = {}

    def copied(self):
        """Return the same once more."""
        other = PlanMap(self.lists)
        other.forth = dict(self.forth)
        return other

    def maps_class(self, number, other):
        """Return whether a class stands for a class or value."""
        values = self.lists[number]
        if values is not None and other not in values:
            return False
        return self.forth.setdefault(number, other) == other


class RowSearch:
    """A search for rows of a case to which others lead: tuples (table, places, terms), with what is known there.

    Rows with few choices come first, so that what leads nowhere is seen soon.
    """

    def __init__(self, rows, others, once):
        self.rows = rows
        self.others = others
        self.once = once
        self.taken = []
        self.choices = [choices_for(row, others) for row in rows]
        self.order = fewest_first(self.choices)

    def succeeds(self, known):
        """Return whether all rows that are left lead to rows; taken then has the indexes of these by the order."""
        if len(self.taken) == len(self.rows):
            return True
        at = self.order[len(self.taken)]
        _, places, terms = self.rows[at]
        for index in self.choices[at]:
            if self.once and index in self.taken:
                continue
            tried = known.copied()
            if tried.maps_all(terms, [self.others[index][1][place] for place in places]):
                self.taken.append(index)
                if self.succeeds(tried):
                    return True
                self.taken.pop()
        return False

    def result(self, known):
        """Return the list of the rows of the case to which the rows lead, in their order, or None."""
        if not self.succeeds(known):
            return None
        found = dict(zip(self.order, self.taken))
        return [found[at] for at in range(len(self.rows))]


def choices_for(row, others):
    """Return the list of the indexes of rows of a table in which all values of a row stand."""
    table, places, terms = row
    values = [(place, term) for place, term in zip(places, terms) if isinstance(term, str)]
    found = []
    for index, (other, parts) in enumerate(others):
        if other == table and all([parts[place] == value for place, value in values]):
            found.append(index)
    return found


def fewest_first(choices):
    """Return the list of the indexes of lists, those of the shortest lists first."""
    return sorted(range(len(choices)), key=lambda at: len(choices[at]))


def rows_between(one, two):
    """Return the list of the rows of a case to which those of another one lead, one for one, or None."""
    known = CaseMap()
    if len(one[1]) != len(two[1]) or not known.maps_all(one[0], two[0]):
        return None
    rows = [(table, list(range(len(terms))), terms) for table, terms in one[1]]
    return RowSearch(rows, two[1], True).result(known)


def rows_into(shapes, plan, case):
    """Return the list of the rows of a case for which those of a plan stand when it leads into it, or None."""
    known = PlanMap(plan[3])
    if not known.maps_all(plan[1], case[0]):
        return None
    return RowSearch(placed_rows(shapes, plan), case[1], False).result(known)


def placed_rows(shapes, plan):
    """Return the rows of a plan as a list of tuples (table, places, terms)."""
    rows = []
    for table, columns in plan[2]:
        places = shapes.shape_of(table).places
        rows.append((table, [places[column] for column, _ in columns], [term for _, term in columns]))
    return rows
