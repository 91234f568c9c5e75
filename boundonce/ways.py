"""Ways of paths: which schemas matter to a statement, and which paths give it the same binding."""

from itertools import permutations

from boundonce.binder import bound_or_none
from boundonce.bindings import need_name, need_statement
from boundonce.statements import MOST_SCHEMAS


def mattering(catalog, statement):
    """Return the ascending list of the schemas that matter to a statement."""
    need_statement(statement)
    standing = [name for schema, name, _ in statement[2] if schema is None]
    calls = calls_without_schema([item[1] for item in statement[1] if item[0] == "term"])
    found = {}
    for number in catalog.all_numbers:
        word, schema, name, rest = catalog.thing_of(number)[:4]
        if word == "function":
            matters = (name, len(rest)) in calls
        else:
            matters = word != "column" and name in standing
        if matters:
            found[schema] = True
    return sorted(found)


def calls_without_schema(terms):
    """Return a list of the names of calls without a schema, also within others, with how many terms they have."""
    found = []
    for term in terms:
        if isinstance(term, tuple) and len(term) == 4:
            if term[1] is None:
                found.append((term[2], len(term[3])))
            found.extend(calls_without_schema(term[3]))
    return found


def path_classes(catalog, statement, role):
    """Return a list of pairs of a binding, or None, and the paths of schemas that matter with which there is it."""
    schemas = mattering(catalog, statement)
    need_name(role)
    found = []
    places = {}
    for path in paths_of(schemas):
        binding = bound_or_none(catalog, statement, path, role)
        # Bindings may be too deep to be looked for in a dict themselves.
        place = places.setdefault(repr(binding), len(places))
        if place == len(found):
            found.append((binding, []))
        found[place][1].append(path)
    return found


def paths_of(schemas):
    """Return the list of all paths of some schemas, by their lengths and then ascending."""
    found = []
    for size in range(min(len(schemas), MOST_SCHEMAS) + 1):
        for path in permutations(schemas, size):
            found.append(path)
    return found
