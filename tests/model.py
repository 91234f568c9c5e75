"""Deeds done once more, in another way than the package does them.

A model keeps plain sets. What a deed drops is only taken out itself; then all
that leans on something that is not there any more is swept out, again and
again until nothing changes. Nothing here is taken from the package.
"""


class Refused(Exception):
    """A deed is refused, with the word for why."""


def need(holds, word):
    if not holds:
        raise Refused(word)


class Model:
    """What a catalog holds, as far as deeds change it."""

    def __init__(self, types):
        self.types = types
        self.count = 0
        self.things = {}
        self.facts = set()
        self.rights = set()
        self.rules = {}

    def make(self, *thing):
        self.things[self.count] = thing
        self.count += 1

    def standing(self, schema, name):
        found = [n for n, thing in self.things.items() if thing[0] in ("table", "view") and thing[1:3] == (schema, name)]
        return found[0] if found else None

    def table(self, schema, name):
        number = self.standing(schema, name)
        return number if number is not None and self.things[number][0] == "table" else None

    def function(self, schema, name, types):
        found = [n for n, thing in self.things.items() if thing[:4] == ("function", schema, name, types)]
        return found[0] if found else None

    def columns(self, table):
        return sorted([n for n, thing in self.things.items() if thing[:2] == ("column", table)])

    def column(self, table, name):
        found = [n for n in self.columns(table) if self.things[n][2] == name]
        return found[0] if found else None

    def known(self, types):
        need(all(word in self.types for word in types), "Unknown")

    def fact(self, table, form):
        """Return a fact with numbers; something that is not there makes it Unknown."""
        need(table is not None, "Unknown")
        if form[0] == "ref":
            other = self.table(form[2], form[3])
            need(other is not None, "Unknown")
            to = {self.column(other, name): self.column(table, form[1][at]) for at, name in enumerate(form[4])}
            need(None not in to and None not in to.values(), "Unknown")
            return ("ref", tuple(to[number] for number in sorted(to)), other, tuple(sorted(to)))
        names = form[1] if form[0] == "key" else (form[1],)
        numbers = [self.column(table, name) for name in names]
        need(None not in numbers, "Unknown")
        return ("key", tuple(sorted(numbers))) if form[0] == "key" else ("in", numbers[0], form[2])

    def sweep(self):
        """Take out what leans on what is not there, as long as there is such."""
        for number, thing in list(self.things.items()):
            if thing[0] == "column" and thing[1] not in self.things:
                del self.things[number]
        before = None
        while before != self.facts:
            before = self.facts
            self.facts = {(table, fact) for table, fact in before if self.stands(table, fact)}
        self.rights = {(role, number) for role, number in self.rights if number in self.things}
        self.rules = {place: rule for place, rule in self.rules.items() if rule[0] in self.things}

    def stands(self, table, fact):
        columns = (fact[1],) if fact[0] == "in" else fact[1]
        if not all(number in self.things for number in columns):
            return False
        return fact[0] != "ref" or (fact[2], ("key", fact[3])) in self.facts

    def goes_round(self):
        """Return whether references make a ring: cut off tables that lead nowhere until none is left."""
        leads = {(table, fact[2]) for table, fact in self.facts if fact[0] == "ref"}
        while leads:
            left = {pair for pair in leads if pair[1] in [other[0] for other in leads]}
            if left == leads:
                return True
            leads = left
        return False

    def do(self, deed):
        """Do a deed, or raise Refused with nothing done."""
        method = getattr(self, "do_" + deed[0].replace(" ", "_"))
        method(*deed[1:])
        self.sweep()

    def do_table(self, schema, name, columns):
        self.known([pair[1] for pair in columns])
        need(self.standing(schema, name) is None, "Taken")
        table = self.count
        self.make("table", schema, name)
        for pair in columns:
            self.make("column", table, *pair)

    def do_view(self, schema, name, statement, path):
        need(self.standing(schema, name) is None, "Taken")
        self.make("view", schema, name, statement, path)

    def do_function(self, schema, name, types, result):
        self.known(types + (result,))
        need(self.function(schema, name, types) is None, "Taken")
        self.make("function", schema, name, types, result)

    def do_drop(self, schema, name):
        need(self.standing(schema, name) is not None, "Unknown")
        del self.things[self.standing(schema, name)]

    def do_drop_function(self, schema, name, types):
        need(self.function(schema, name, types) is not None, "Unknown")
        del self.things[self.function(schema, name, types)]

    def give_name(self, number, name):
        thing = self.things[number]
        self.things[number] = thing[:2] + (name,) + thing[3:]

    def do_rename(self, schema, name, other):
        number = self.standing(schema, name)
        need(number is not None, "Unknown")
        need(self.standing(schema, other) is None, "Taken")
        self.give_name(number, other)

    def do_rename_function(self, schema, name, types, other):
        number = self.function(schema, name, types)
        need(number is not None, "Unknown")
        need(self.function(schema, other, types) is None, "Taken")
        self.give_name(number, other)

    def do_rename_column(self, schema, name, column, other):
        table = self.table(schema, name)
        need(table is not None and self.column(table, column) is not None, "Unknown")
        need(self.column(table, other) is None, "Taken")
        self.give_name(self.column(table, column), other)

    def do_column(self, schema, name, column, kind):
        table = self.table(schema, name)
        need(table is not None, "Unknown")
        self.known([kind])
        need(self.column(table, column) is None, "Taken")
        self.make("column", table, column, kind)

    def do_drop_column(self, schema, name, column):
        table = self.table(schema, name)
        need(table is not None and self.column(table, column) is not None, "Unknown")
        need(len(self.columns(table)) > 1, "Unfit")
        del self.things[self.column(table, column)]

    def do_fact(self, schema, name, form):
        table = self.table(schema, name)
        fact = self.fact(table, form)
        need((table, fact) not in self.facts, "Taken")
        if fact[0] == "ref":
            need((fact[2], ("key", fact[3])) in self.facts, "Unfit")
            for here, there in zip(fact[1], fact[3]):
                need(self.things[here][3] == self.things[there][3], "Unfit")
        before = self.facts
        self.facts = before | {(table, fact)}
        if self.goes_round():
            self.facts = before
            raise Refused("Unfit")

    def do_drop_fact(self, schema, name, form):
        table = self.table(schema, name)
        fact = self.fact(table, form)
        need((table, fact) in self.facts, "Unknown")
        self.facts = self.facts - {(table, fact)}

    def do_grant(self, role, schema, name):
        number = self.standing(schema, name)
        need(number is not None, "Unknown")
        need((role, number) not in self.rights, "Taken")
        self.rights.add((role, number))

    def do_revoke(self, role, schema, name):
        need((role, self.standing(schema, name)) in self.rights, "Unknown")
        self.rights.discard((role, self.standing(schema, name)))

    def do_rule(self, role, schema, name, column, values):
        table = self.table(schema, name)
        need(table is not None and self.column(table, column) is not None, "Unknown")
        self.rules[(role, table)] = (self.column(table, column), values)

    def do_drop_rule(self, role, schema, name):
        place = (role, self.table(schema, name))
        need(place in self.rules, "Unknown")
        del self.rules[place]

    def told(self):
        """Return all that a catalog would tell of what is here."""
        things = {}
        for number, thing in self.things.items():
            things[number] = thing + (tuple(self.columns(number)),) if thing[0] == "table" else thing
        facts = {number: sorted(fact for table, fact in self.facts if table == number)
                 for number, thing in self.things.items() if thing[0] == "table"}
        return self.count, things, facts, sorted(self.rights), dict(self.rules)


def told_by(catalog, roles):
    """Return the same of a catalog, as its methods tell it."""
    things = {number: catalog.thing_of(number) for number in catalog.all_numbers}
    facts = {number: catalog.facts_of(number) for number in things if things[number][0] == "table"}
    places = [(role, number) for role in roles for number in range(catalog.next_number)]
    rights = sorted([place for place in places if catalog.has_right(*place)])
    rules = {place: catalog.rule_for(*place) for place in places if catalog.rule_for(*place) is not None}
    return catalog.next_number, things, facts, rights, rules
