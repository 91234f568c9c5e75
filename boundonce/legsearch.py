"""A search for legs and ends.

A list of facts is told as an integer with a mark, a bit, for each fact that is
in it. Facts of tables to which no plan leads, also through references, never
change whether plans are alike; they are left out from the start.
"""

from boundonce.likeness import alike


class LegSearch:
    """The declared facts that two plans may stand on, and by which of them they were found to be alike."""

    def __init__(self, catalog, one, two):
        self.catalog = catalog
        self.plans = (one, two)
        self.facts = facts_reached(catalog, [table for table, _ in one[2] + two[2]])
        self.leaning = [self.marks_leaning(pair) for pair in self.facts]
        self.all_marks = (1 << len(self.facts)) - 1
        self.known = {}

    def marks_leaning(self, pair):
        """Return the marks of a fact and, if it is a key, of the references to it."""
        table, fact = pair
        marks = 0
        for at, (other, leading) in enumerate(self.facts):
            leads = fact[0] == "key" and leading[0] == "ref" and leading[2:] == (table, fact[1])
            if leads or (other, leading) == pair:
                marks |= 1 << at
        return marks

    def facts_in(self, marks):
        """Return the ascending list of the facts with these marks."""
        return [pair for at, pair in enumerate(self.facts) if (marks >> at) & 1]

    def listed(self, found):
        """Return the ascending list of the lists of facts with marks of a list."""
        return sorted([self.facts_in(marks) for marks in found])

    def alike_by(self, marks):
        """Return whether the plans are alike by the facts with these marks."""
        if marks not in self.known:
            self.known[marks] = alike(self.catalog, self.plans[0], self.plans[1], self.facts_in(marks))
        return self.known[marks]

    def without(self, marks, at):
        """Return marks without those of a fact and of the references to it."""
        return marks & ~self.leaning[at]

    def leg_within(self, marks):
        """Return a leg within facts by which the plans are alike: the last ones are left out first."""
        for at in reversed(range(len(self.facts))):
            left = self.without(marks, at)
            if left != marks and self.alike_by(left):
                marks = left
        return marks

    def rest_of(self, end):
        """Return the marks of all facts but those of an end, and the references to keys among them."""
        marks = self.all_marks
        for at in range(len(self.facts)):
            if (end >> at) & 1:
                marks = self.without(marks, at)
        return marks

    def legs_and_ends(self):
        """Return the lists of the marks of all legs and of all ends."""
        legs, ends = [], [0]
        # The least lists that have a fact with each leg in common are the ends, unless a leg is still to be found.
        at = 0
        while at < len(ends):
            rest = self.rest_of(ends[at])
            if self.alike_by(rest):
                legs.append(self.leg_within(rest))
                ends = crossed(ends, legs[-1])
                at = 0
            else:
                at += 1
        return legs, ends


def crossed(ends, leg):
    """Return the least marks that have one in common with a leg, too, of the least that have one with other legs."""
    hitting = [end for end in ends if end & leg]
    found = list(hitting)
    for end in ends:
        if not end & leg:
            for at in range(leg.bit_length()):
                more = end | (leg & (1 << at))
                if more != end and not any([other & more == other for other in hitting]):
                    found.append(more)
    return found


def facts_reached(catalog, tables):
    """Return the ascending list of pairs (table, fact) of tables and of those to which references lead from them."""
    found = []
    seen = {}
    waiting = list(tables)
    while waiting:
        table = waiting.pop()
        if table not in seen:
            seen[table] = True
            for fact in catalog.facts_of(table):
                found.append((table, fact))
                if fact[0] == "ref":
                    waiting.append(fact[2])
    return sorted(found)
