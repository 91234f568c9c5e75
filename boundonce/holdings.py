"""What a catalog holds: its things, what is declared of them, and where they are found.

A holding is changed only until a catalog has it. Holdings share their dicts:
what changes one puts another dict in its place.
"""


class Holding:
    """Things by number, facts by table, rights and rules by role and number, and numbers by names."""

    def __init__(self):
        self.following = 0
        self.things = {}
        self.facts = {}
        self.rights = {}
        self.rules = {}
        self.places = {}
        self.functions = {}
        self.columns = {}

    def copied(self):
        """Return another holding of the same."""
        other = Holding()
        other.following = self.following
        other.things = self.things
        other.facts = self.facts
        other.rights = self.rights
        other.rules = self.rules
        other.places = self.places
        other.functions = self.functions
        other.columns = self.columns
        return other

    def add_things(self, things):
        """Give things the next numbers, one after another."""
        added = {self.following + at: thing for at, thing in enumerate(things)}
        self.things = with_items(self.things, added)
        self.following += len(things)

    def add_table(self, schema, name, columns):
        """Add a table with these pairs of names and types."""
        table = self.following
        numbers = tuple(range(table + 1, table + 1 + len(columns)))
        whole = ("table", schema, name, numbers)
        self.add_things([whole] + [("column", table, column, kind) for column, kind in columns])
        self.facts = with_items(self.facts, {table: ()})
        self.places = with_items(self.places, {(schema, name): table})
        self.note_columns(table)

    def add_view(self, view):
        """Add a view."""
        self.places = with_items(self.places, {view[1:3]: self.following})
        self.add_things([view])

    def add_function(self, function):
        """Add a function."""
        self.note_function(function[1:3], function[3], self.following)
        self.add_things([function])

    def add_column(self, table, column, kind):
        """Add a column behind the others of a table."""
        word, schema, name, numbers = self.things[table]
        number = self.following
        self.add_things([("column", table, column, kind)])
        self.things = with_items(self.things, {table: (word, schema, name, numbers + (number,))})
        self.note_columns(table)

    def note_columns(self, table):
        """Find the columns of a table by their names as they are now, pairs of a number and a type."""
        named = {}
        for number in self.things[table][3]:
            _, _, name, kind = self.things[number]
            named[name] = (number, kind)
        self.columns = with_items(self.columns, {table: named})

    def note_function(self, place, types, number):
        """Find a function under a name of a schema with its list of types."""
        named = with_items(self.functions.get(place, {}), {types: number})
        self.functions = with_items(self.functions, {place: named})

    def forget_function(self, place, types):
        """Find no function any more under a name of a schema with this list of types."""
        named = without_item(self.functions[place], types)
        self.functions = with_items(self.functions, {place: named})

    def give_name(self, number, name):
        """Give a thing another name, and return the thing as it was."""
        thing = self.things[number]
        self.things = with_items(self.things, {number: thing[:2] + (name,) + thing[3:]})
        return thing

    def rename_standing(self, number, name):
        """Give a table or view another name where it stands."""
        thing = self.give_name(number, name)
        self.places = with_items(without_item(self.places, thing[1:3]), {(thing[1], name): number})

    def rename_function(self, number, name):
        """Give a function another name where it stands."""
        thing = self.give_name(number, name)
        self.forget_function(thing[1:3], thing[3])
        self.note_function((thing[1], name), thing[3], number)

    def rename_column(self, number, name):
        """Give a column another name in its table."""
        thing = self.give_name(number, name)
        self.note_columns(thing[1])

    def add_fact(self, table, fact):
        """Declare a fact of a table."""
        self.facts = with_items(self.facts, {table: tuple(sorted(self.facts[table] + (fact,)))})

    def drop_fact(self, table, fact):
        """Drop a fact of a table, and the references to it if it is a key."""
        left = tuple([other for other in self.facts[table] if other != fact])
        self.facts = with_items(self.facts, {table: left})
        if fact[0] == "key":
            self.drop_references(table, fact[1])

    def drop_references(self, table, others):
        """Drop the references of all tables to a key of a table."""
        facts = self.facts
        self.facts = {at: tuple([fact for fact in facts[at] if not leads_to(fact, table, others)]) for at in facts}

    def drop_column(self, table, column):
        """Drop a column and the facts and rules in which it is."""
        leaning = [fact for fact in self.facts[table] if column in columns_in(fact)]
        for fact in leaning:
            self.drop_fact(table, fact)
        rules = self.rules
        self.rules = {place: rules[place] for place in rules if rules[place][0] != column}
        word, schema, name, numbers = self.things[table]
        left = tuple([number for number in numbers if number != column])
        self.things = with_items(without_item(self.things, column), {table: (word, schema, name, left)})
        self.note_columns(table)

    def drop_standing(self, number):
        """Drop a table or view and all that leans on it."""
        if number in self.facts:
            # Each fact, reference to a key and rule has a column, with which it goes.
            columns = self.things[number][3]
            for column in columns:
                self.drop_column(number, column)
            self.facts = without_item(self.facts, number)
            self.columns = without_item(self.columns, number)
        self.places = without_item(self.places, self.things[number][1:3])
        self.rights = {place: True for place in self.rights if place[1] != number}
        self.things = without_item(self.things, number)

    def drop_function(self, number):
        """Drop a function."""
        thing = self.things[number]
        self.forget_function(thing[1:3], thing[3])
        self.things = without_item(self.things, number)

    def grant(self, role, number):
        """Give a role the right on a table or view."""
        self.rights = with_items(self.rights, {(role, number): True})

    def revoke(self, role, number):
        """Take the right on a table or view from a role."""
        self.rights = without_item(self.rights, (role, number))

    def set_rule(self, role, table, rule):
        """Set the rule of a role for a table, in place of the one that it had."""
        self.rules = with_items(self.rules, {(role, table): rule})

    def drop_rule(self, role, table):
        """Take away the rule of a role for a table."""
        self.rules = without_item(self.rules, (role, table))


def with_items(table, added):
    """Return a copy of a dict in which some keys have the values of another one."""
    copied = {key: table[key] for key in table}
    for key in added:
        copied[key] = added[key]
    return copied


def without_item(table, key):
    """Return a copy of a dict without a key."""
    return {other: table[other] for other in table if other != key}


def columns_in(fact):
    """Return the columns of its own table that a fact has."""
    if fact[0] == "in":
        return (fact[1],)
    return fact[1]


def leads_to(fact, table, others):
    """Return whether a fact is a reference to this key of a table."""
    return fact[0] == "ref" and fact[2:] == (table, others)
