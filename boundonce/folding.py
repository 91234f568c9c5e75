"""Data that come of the rows of a case when some of them stand for one row.

Two plans that part do so on data with as few rows as possible that come of a
case in this way: what must be equal for that is equal, and nothing else is.
For where more is equal it can be told apart again, with as many rows; if the
plans parted on no data that are told apart further, they would not part at all.
"""

from boundonce.classes import Classes
from boundonce.names import word_at


class Folding:
    """A search for all data of so many rows that come of the rows of a case and keep the facts.

    A group is a row of the data: its table, and the classes of the first row
    that stands for it, to which those of all others are made equal.
    """

    def __init__(self, shapes, rows, size, used):
        self.shapes = shapes
        self.size = size
        self.used = used
        self.rows = []
        classes = Classes()
        known = {}
        for table, terms in rows:
            for term in terms:
                if term not in known:
                    known[term] = classes.new_class((term,) if isinstance(term, str) else None)
            self.rows.append((table, [known[term] for term in terms]))
        self.waiting = [(0, classes, [])]

    def next_data(self):
        """Return further data, or None if there are no more."""
        while self.waiting:
            at, classes, groups = self.waiting.pop()
            if at < len(self.rows):
                self.lead(at, classes, groups)
            elif not self.agree_in_key(classes, groups):
                return self.data_of(classes, groups)
        return None

    def lead(self, at, classes, groups):
        """Let a row stand for a row of its own, or for one of those that there are."""
        table, numbers = self.rows[at]
        if self.can_end(at + 1, groups + [self.rows[at]]):
            self.waiting.append((at + 1, classes, groups + [self.rows[at]]))
        if not self.can_end(at + 1, groups):
            return
        for other, others in groups:
            if other == table:
                tried = classes.copied()
                for one, two in zip(others, numbers):
                    tried.merge(one, two)
                if not tried.failed:
                    self.waiting.append((at + 1, tried, groups))

    def can_end(self, at, groups):
        """Return whether there may be as many groups as asked for when all rows from an index on are led."""
        here = {table: True for table, _ in groups}
        missing = {table: True for table, _ in self.rows[at:] if table not in here}
        return len(groups) + len(missing) <= self.size <= len(groups) + len(self.rows) - at

    def agree_in_key(self, classes, groups):
        """Return whether two groups are rows of a table that agree in a key, though they are two."""
        seen = {}
        for table, numbers in groups:
            for at, places in enumerate(self.shapes.shape_of(table).unique):
                mark = (table, at) + tuple([classes.term(numbers[place]) for place in places])
                if mark in seen:
                    return True
                seen[mark] = True
        return False

    def data_of(self, classes, groups):
        """Return the data of groups, in which each class has a value of its own that is not used elsewhere."""
        data = {table: [] for table in self.shapes.catalog.all_tables()}
        words = {}
        following = 0
        for table, numbers in groups:
            terms = [classes.term(number) for number in numbers]
            for term in terms:
                if not isinstance(term, str) and term not in words:
                    while word_at(following) in self.used:
                        following += 1
                    words[term] = word_at(following)
                    following += 1
            data[table].append(tuple([term if isinstance(term, str) else words[term] for term in terms]))
        return data
