"""Catalogs: what stands where, and what is declared of it."""

from boundonce.errors import InvalidCatalog, Unknown
from boundonce.forms import are_different, is_number, is_pair, is_tuple_of
from boundonce.holdings import Holding
from boundonce.names import is_name, is_type_list

MOST_TYPES = 4


class Catalog:
    """A catalog, which is never changed: a deed makes another one.

    What is asked often is looked for in a dict at once: a string that is no
    name, or an integer that is no number of a thing, is just not found there.
    """

    def __init__(self, types, casts=()):
        if not are_types(types) or not are_casts(casts, types):
            raise InvalidCatalog("a catalog has one to four types, and casts between two of them")
        self._types = tuple(sorted(types))
        self._casts = tuple(sorted(casts))
        self._casting = {cast: True for cast in self._casts}
        self._holding = Holding()

    @property
    def types(self):
        """The types, ascending."""
        return self._types

    @property
    def casts(self):
        """The casts, ascending."""
        return self._casts

    @property
    def next_number(self):
        """The number that the next thing gets."""
        return self._holding.following

    @property
    def all_numbers(self):
        """The numbers of all things, ascending."""
        return sorted(self._holding.things)

    def __eq__(self, other):
        return (
            isinstance(other, Catalog)
            and self._types == other._types
            and self._casts == other._casts
            and self._holding.things == other._holding.things
            and self._holding.facts == other._holding.facts
            and self._holding.rights == other._holding.rights
            and self._holding.rules == other._holding.rules
        )

    def thing_of(self, number):
        """Return the thing with a number."""
        if not isinstance(number, int) or isinstance(number, bool) or number not in self._holding.things:
            raise Unknown("no thing has this number")
        return self._holding.things[number]

    def standing_at(self, schema, name):
        """Return the number of the table or view that stands there, or None."""
        if not isinstance(schema, str) or not isinstance(name, str):
            return None
        return self._holding.places.get((schema, name))

    def function_at(self, schema, name, types):
        """Return the number of the function that stands there, or None."""
        if not isinstance(schema, str) or not isinstance(name, str):
            return None
        named = self._holding.functions.get((schema, name))
        if not named or not is_type_list(types):
            return None
        return named.get(types)

    def functions_named(self, schema, name):
        """Return a list of pairs (types, number) of the functions that stand in a schema under a name."""
        return list(self._holding.functions.get((schema, name), {}).items())

    def column_of(self, table, name):
        """Return the number of a column of a table, or None."""
        if not self.is_table(table) or not isinstance(name, str) or name not in self._holding.columns[table]:
            return None
        return self._holding.columns[table][name][0]

    def columns_of(self, table):
        """Return the dict, which nobody changes, from the names of the columns of a table to pairs (number, type)."""
        return self._holding.columns[table]

    def named_columns_of(self, table):
        """Return the tuple of the pairs (name, number) of the columns of a table, in order."""
        columns = self._holding.columns[table]
        return tuple([(name, columns[name][0]) for name in columns])

    def facts_of(self, table):
        """Return the declared facts of a table, ascending."""
        if not self.is_table(table):
            raise Unknown("no table has this number")
        return list(self._holding.facts[table])

    def has_fact(self, table, fact):
        """Return whether a fact is declared of a table; there may be no such table."""
        return fact in self._holding.facts.get(table, ())

    def has_right(self, role, number):
        """Return whether a role has the right on a table or view."""
        return isinstance(role, str) and is_number(number) and (role, number) in self._holding.rights

    def rule_for(self, role, number):
        """Return the rule of a role for a table, or None."""
        if not isinstance(role, str) or not is_number(number):
            return None
        return self._holding.rules.get((role, number))

    def numbered_from(self, number):
        """Return the catalog with this next number, or with its own one if that is greater."""
        holding = self.copied_holding()
        holding.following = max(holding.following, number)
        return self.with_holding(holding)

    def all_tables(self):
        """Return the ascending list of the numbers of all tables."""
        return sorted(self._holding.facts)

    def is_table(self, thing):
        """Return whether any object is the number of a table."""
        return isinstance(thing, int) and not isinstance(thing, bool) and thing in self._holding.facts

    def is_function(self, thing):
        """Return whether any object is the number of a function."""
        return is_number(thing) and thing in self._holding.things and self._holding.things[thing][0] == "function"

    def is_cast(self, one, other):
        """Return whether a thing of a type may be handed in, by a cast, where another type is asked for."""
        return (one, other) in self._casting

    def asked_for(self, one):
        """Return the list of the types where which are asked for a thing of a type may be handed in."""
        return [one] + [pair[1] for pair in self._casts if pair[0] == one]

    def copied_holding(self):
        """Return what the catalog holds, to be changed."""
        return self._holding.copied()

    def with_holding(self, holding):
        """Return the catalog that holds this, which is not changed from then on."""
        catalog = Catalog(self._types, self._casts)
        catalog._holding = holding
        return catalog


def are_types(thing):
    """Return whether any object is a tuple or list of types for a catalog."""
    if not isinstance(thing, (tuple, list)):
        return False
    return is_tuple_of(tuple(thing), 1, MOST_TYPES, is_name) and are_different(thing)


def are_casts(thing, types):
    """Return whether any object is a tuple or list of casts between these types."""
    if not isinstance(thing, (tuple, list)):
        return False
    if not all([is_cast(pair, types) for pair in thing]):
        return False
    return are_different(thing)


def is_cast(thing, types):
    """Return whether any object is a pair of two of these types."""
    return is_pair(thing) and thing[0] in types and thing[1] in types and thing[0] != thing[1]
