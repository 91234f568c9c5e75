"""How plans and cases lead into cases: told to told, and row to row."""


class TermMap:
    """What classes stand for in a case, as far as it is known; those below say which classes may."""

    def maps(self, term, other):
        """Return whether a term leads to one of the case; what was open about it is known from then on."""
        if isinstance(term, tuple):
            return isinstance(other, tuple) and term[1] == other[1] and self.maps_all(term[2], other[2])
        if isinstance(term, str) or isinstance(other, tuple):
            return term == other
        return self.maps_class(term, other)

    def maps_all(self, terms, others):
        """Return whether terms lead to those of the case, one for one."""
        if len(terms) != len(others):
            return False
        for term, other in zip(terms, others):
            if not self.maps(term, other):
                return False
        return True


class CaseMap(TermMap):
    """What the classes of a case stand for in another one: classes, one for one."""

    def __init__(self):
        self.forth = {}
        self.back = {}

    def copied(self):
        """Return the same once more."""
        other = CaseMap()
        other.forth = dict(self.forth)
        other.back = dict(self.back)
        return other

    def maps_class(self, number, other):
        """Return whether a class leads to a class, and no other one does."""
        if isinstance(other, str):
            return False
        return self.forth.setdefault(number, other) == other and self.back.setdefault(other, number) == number


class PlanMap(TermMap):
    """What the classes of a plan stand for in a case: classes and values, one with a list for a value of it."""

    def __init__(self, lists):
        self.lists = lists
        self.forth = {}

    def copied(self):
        """Return the same once more."""
        other = PlanMap(self.lists)
        other.forth = dict(self.forth)
        return other

    def maps_class(self, number, other):
        """Return whether a class stands for a class or value."""
        values = self.lists[number]
        if values is not None and other not in values:
            return False
        return self.forth.setdefault(number, other) == other


class RowSearch:
    """A search for rows of a case to which others lead: tuples (table, places, terms), with what is known there."""

    def __init__(self, rows, others, once):
        self.rows = rows
        self.others = others
        self.once = once
        self.found = []

    def succeeds(self, known):
        """Return whether all rows from the next one on lead to rows; found then has the indexes of these."""
        if len(self.found) == len(self.rows):
            return True
        table, places, terms = self.rows[len(self.found)]
        for index, (other, parts) in enumerate(self.others):
            if other != table or (self.once and index in self.found):
                continue
            tried = known.copied()
            if tried.maps_all(terms, [parts[place] for place in places]):
                self.found.append(index)
                if self.succeeds(tried):
                    return True
                self.found.pop()
        return False


def rows_between(one, two):
    """Return the list of the rows of a case to which those of another one lead, one for one, or None."""
    known = CaseMap()
    if len(one[1]) != len(two[1]) or not known.maps_all(one[0], two[0]):
        return None
    rows = [(table, list(range(len(terms))), terms) for table, terms in one[1]]
    search = RowSearch(rows, two[1], True)
    return search.found if search.succeeds(known) else None


def rows_into(shapes, plan, case):
    """Return the list of the rows of a case for which those of a plan stand when it leads into it, or None."""
    known = PlanMap(plan[3])
    if not known.maps_all(plan[1], case[0]):
        return None
    rows = []
    for table, columns in plan[2]:
        places = shapes.shape_of(table).places
        rows.append((table, [places[column] for column, _ in columns], [term for _, term in columns]))
    search = RowSearch(rows, case[1], False)
    return search.found if search.succeeds(known) else None
