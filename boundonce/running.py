"""Running plans on data: how many ways there are for the values of some classes.

The rows of a plan are taken one after another. Between two of them stands a
dict from the values of the classes that are still asked for to how many ways
lead there, so that ways which differ no more are counted together.
"""

from boundonce.matching import placed_rows


class Joint:
    """How the rows of a table join what is known: live classes have values, and later ones are still asked for."""

    def __init__(self, places, terms, lists, live, later):
        first = {}
        self.fixed = []
        self.equal = []
        for place, term in zip(places, terms):
            if isinstance(term, str):
                self.fixed.append((place, term))
            elif term in first:
                self.equal.append((first[term], place))
            else:
                first[term] = place
        self.limits = [(first[number], lists[number]) for number in first if lists[number] is not None]
        shared = [number for number in first if number in live]
        fresh = [number for number in first if number not in live and number in later]
        self.known_at = [live.index(number) for number in shared]
        self.known = [first[number] for number in shared]
        self.added = [first[number] for number in fresh]
        self.staying_at = [at for at, number in enumerate(live) if number in later]
        self.left = [live[at] for at in self.staying_at] + fresh

    def fits(self, row):
        """Return whether a row has the values that the plan names, whatever is known."""
        for place, value in self.fixed:
            if row[place] != value:
                return False
        for one, other in self.equal:
            if row[one] != row[other]:
                return False
        for place, values in self.limits:
            if row[place] not in values:
                return False
        return True

    def grouped(self, rows):
        """Return the rows that fit: by what must be known of them a dict from what they add to how often they do."""
        groups = {}
        for row in rows:
            if self.fits(row):
                group = groups.setdefault(picked(row, self.known), {})
                values = picked(row, self.added)
                group[values] = group.get(values, 0) + 1
        return groups

    def joined(self, counts, rows):
        """Return the counts of the ways that are left with a row more each."""
        groups = self.grouped(rows)
        found = {}
        for values in counts:
            staying = picked(values, self.staying_at)
            for added, many in groups.get(picked(values, self.known_at), {}).items():
                state = staying + added
                found[state] = found.get(state, 0) + counts[values] * many
        return found


def picked(values, places):
    """Return the tuple of the values at some places."""
    return tuple([values[place] for place in places])


def counted_ways(shapes, plan, data, kept):
    """Return a dict from tuples of values of the kept classes to how many ways of a plan give them these."""
    waiting = placed_rows(shapes, plan)
    live = []
    counts = {(): 1}
    while waiting:
        at = best_next(waiting, live, data)
        table, places, terms = waiting[at]
        waiting = waiting[:at] + waiting[at + 1:]
        later = kept + [term for _, _, others in waiting for term in others]
        joint = Joint(places, terms, plan[3], live, later)
        counts = joint.joined(counts, data[table])
        live = joint.left
    order = [live.index(number) for number in kept]
    return {picked(values, order): counts[values] for values in counts}


def best_next(waiting, live, data):
    """Return the index of a row of a plan of which much is known, of several one of a table with few rows."""
    marks = []
    for table, _, terms in waiting:
        known = [term for term in terms if isinstance(term, str) or term in live]
        marks.append((-len(known), len(data[table])))
    return marks.index(min(marks))
