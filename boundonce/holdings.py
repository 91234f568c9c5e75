"""What a catalog holds: its things, and what is declared of them.

A holding is changed only until a catalog has it: a deed changes a copy.
"""


class Holding:
    """Things by number, facts by table, rights and rules by role and number."""

    def __init__(self):
        self.following = 0
        self.things = {}
        self.facts = {}
        self.rights = {}
        self.rules = {}

    def copied(self):
        """Return another holding of the same."""
        other = Holding()
        other.following = self.following
        other.things = {number: self.things[number] for number in self.things}
        other.facts = {table: self.facts[table] for table in self.facts}
        other.rights = {place: True for place in self.rights}
        other.rules = {place: self.rules[place] for place in self.rules}
        return other

    def add_thing(self, thing):
        """Give a thing the next number, and return that."""
        number = self.following
        self.things[number] = thing
        self.following = number + 1
        return number

    def add_table(self, schema, name, columns):
        """Add a table with these pairs of names and types."""
        first = self.following + 1
        numbers = tuple(range(first, first + len(columns)))
        table = self.add_thing(("table", schema, name, numbers))
        self.facts[table] = ()
        for column, kind in columns:
            self.add_thing(("column", table, column, kind))

    def add_column(self, table, column, kind):
        """Add a column behind the others of a table."""
        number = self.add_thing(("column", table, column, kind))
        word, schema, name, numbers = self.things[table]
        self.things[table] = (word, schema, name, numbers + (number,))

    def rename(self, number, name):
        """Give a thing another name where it stands, or in its table."""
        thing = self.things[number]
        self.things[number] = thing[:2] + (name,) + thing[3:]

    def add_fact(self, table, fact):
        """Declare a fact of a table."""
        self.facts[table] = tuple(sorted(self.facts[table] + (fact,)))

    def drop_fact(self, table, fact):
        """Drop a fact of a table, and the references to it if it is a key."""
        self.facts[table] = tuple([other for other in self.facts[table] if other != fact])
        if fact[0] == "key":
            self.drop_references(table, fact[1])

    def drop_references(self, table, others):
        """Drop the references of all tables to a key of a table."""
        for at in list(self.facts):
            self.facts[at] = tuple([fact for fact in self.facts[at] if not leads_to(fact, table, others)])

    def drop_column(self, table, column):
        """Drop a column and the facts and rules in which it is."""
        leaning = [fact for fact in self.facts[table] if column in columns_in(fact)]
        for fact in leaning:
            self.drop_fact(table, fact)
        rules = self.rules
        self.rules = {place: rules[place] for place in rules if rules[place][0] != column}
        word, schema, name, numbers = self.things[table]
        self.things[table] = (word, schema, name, tuple([number for number in numbers if number != column]))
        del self.things[column]

    def drop_table(self, table):
        """Drop a table and all that leans on it."""
        # Each fact, reference to a key and rule has a column, with which it goes.
        columns = self.things[table][3]
        for column in columns:
            self.drop_column(table, column)
        del self.facts[table]
        self.drop_alone(table)

    def drop_alone(self, number):
        """Drop a thing that has no columns, and the rights on it."""
        self.rights = {place: True for place in self.rights if place[1] != number}
        del self.things[number]


def columns_in(fact):
    """Return the columns of its own table that a fact has."""
    if fact[0] == "in":
        return (fact[1],)
    return fact[1]


def leads_to(fact, table, others):
    """Return whether a fact is a reference to this key of a table."""
    return fact[0] == "ref" and fact[2:] == (table, others)
