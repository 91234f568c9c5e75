"""Tables as facts see them: which places of a row a key, a reference or a list of values is about."""


class Shape:
    """A table: its columns, and its facts with places in a row in place of columns."""

    def __init__(self, columns, facts):
        self.columns = columns
        self.places = {column: at for at, column in enumerate(columns)}
        self.unique = [self.places_of(fact[1]) for fact in facts if fact[0] == "key"]
        self.limits = [(self.places[fact[1]], fact[2]) for fact in facts if fact[0] == "in"]
        self.references = [(self.places_of(fact[1]), fact[2], fact[3]) for fact in facts if fact[0] == "ref"]

    def places_of(self, columns):
        """Return at which places columns stand."""
        return tuple([self.places[column] for column in columns])


class Shapes:
    """The tables of a catalog by some facts, pairs (table, fact), or by all that are declared if by is None."""

    def __init__(self, catalog, by=None):
        self.catalog = catalog
        self.known = {}
        self.facts = None
        if by is not None:
            self.facts = {}
            for table, fact in by:
                self.facts.setdefault(table, []).append(fact)

    def shape_of(self, table):
        """Return the shape of a table."""
        if table not in self.known:
            if self.facts is None:
                facts = self.catalog.facts_of(table)
            else:
                facts = self.facts.get(table, [])
            self.known[table] = Shape(self.catalog.thing_of(table)[3], facts)
        return self.known[table]
