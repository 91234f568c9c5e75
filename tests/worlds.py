"""Catalogs, statements, plans and data made by a seed: small ones, in which much hangs together."""

from boundonce.bindings import binding_of
from boundonce.catalogs import Catalog
from boundonce.deeds import after_deed
from boundonce.errors import BoundError
from boundonce.leaning import parts_of, without_part
from boundonce.plans import plan_of
from tests.slow import keeps

SCHEMAS, NAMES, CALLS, ROLES = ["main", "own", "old"], ["t", "u", "v"], ["f", "g"], ["boss", "kim"]
COLUMNS, MORE_COLUMNS = ["x", "y", "z"], ["x", "y", "z", "k", "l", "m"]
TYPES, CASTS = ("num", "text", "word"), [("word", "text"), ("num", "word")]
VALUES = ["a", "b", "c"]


def some(source, things, least, most):
    """Return so many different things of a list."""
    return source.sample(things, source.randint(least, min(most, len(things))))


def make_values(source):
    """Return any ascending tuple of one to three values."""
    return tuple(sorted(some(source, VALUES, 1, 3)))


def make_path(source):
    """Return any path, seldom a short one."""
    return tuple(some(source, SCHEMAS, source.choice([0, 2, 3, 3]), 3))


def schema_or_none(source):
    return source.choice([None, None, source.choice(SCHEMAS)])


def make_column(source, labels):
    """Return any column, mostly with a label that is there."""
    label = source.choice([None] + labels * 3) if source.random() < 0.97 else "other"
    return (label, source.choice(COLUMNS[:2] * 4 + COLUMNS))


def make_term(source, labels, deepest, plain):
    """Return a column, a value, or a call."""
    kind = source.choice(["column", "column", "call"] + ["value"] * (not plain))
    if kind == "value":
        return source.choice(VALUES)
    if kind == "column" or deepest == 0:
        return make_column(source, labels)
    terms = tuple([make_term(source, labels, deepest - 1, plain) for _ in range(source.choice([1, 1, 2]))])
    return ("call", schema_or_none(source), source.choice(CALLS), terms)


def make_told(source, labels, plain):
    """Return any told thing."""
    name = source.choice(COLUMNS)
    if not plain and source.random() < 0.2:
        return ("star", source.choice(labels) if source.random() < 0.97 else "other")
    if source.random() < 0.6:
        column = make_column(source, labels)
        return ("column", column, source.choice([column[1], name]))
    term = make_term(source, labels, 3, plain)
    return ("column", term, name) if isinstance(term, tuple) and len(term) == 2 else ("term", term, name)


def make_statement(source, plain=False):
    """Return any statement, one for views if it is plain."""
    sources, told = [], []
    for label in some(source, ["a", "b", "c", "d"], 1, source.choice([1, 2, 2, 3])):
        name = source.choice(NAMES)
        sources.append((schema_or_none(source), name, source.choice([label, label, name])))
    sources = [part for at, part in enumerate(sources) if part[2] not in [other[2] for other in sources[:at]]]
    labels = [part[2] for part in sources]
    for _ in range(source.choice([1, 2, 2, 3])):
        item = make_told(source, labels, plain)
        if not plain or item[2] not in [other[2] for other in told]:
            told.append(item)
    conditions = []
    for _ in range(source.choice([0, 0, 1, 1, 2, 3])):
        column = make_column(source, labels)
        if source.random() < 0.6:
            conditions.append(("equal", column, make_column(source, labels)))
        else:
            conditions.append(("in", column, make_values(source)))
    return (not plain and source.random() < 0.3, tuple(told), tuple(sources), tuple(conditions))


def names_told(catalog, number):
    """Return the names of the columns of a table or view; some of a view whose statement has a star."""
    thing = catalog.thing_of(number)
    if thing[0] == "table":
        return [catalog.thing_of(column)[2] for column in thing[3]]
    return [item[2] for item in thing[3][1]]


def make_fitting_statement(source, catalog, plain=False):
    """Return a statement about what stands in a catalog, one for views if it is plain; it binds often."""
    standing = [number for number in catalog.all_numbers if catalog.thing_of(number)[0] in ("table", "view")]
    functions = [catalog.thing_of(number) for number in catalog.all_numbers if catalog.thing_of(number)[0] == "function"]
    sources, columns = [], []
    for label in some(source, ["a", "b", "c"], 1, 3):
        number = source.choice(standing + tables_of(catalog))
        schema, name = catalog.thing_of(number)[1:3]
        sources.append((None if source.random() < 0.6 else schema, name, label))
        columns += [(label, told) for told in names_told(catalog, number)]

    def column():
        label, name = source.choice(columns)
        return (None if source.random() < 0.4 else label, name)

    def term(deepest):
        kind = source.random()
        if kind < 0.2 and not plain:
            return source.choice(VALUES)
        if kind < 0.7 or deepest == 0 or not functions:
            return column()
        _, schema, name, types, _ = source.choice(functions)
        return ("call", None if source.random() < 0.6 else schema, name, tuple([term(deepest - 1) for _ in types]))

    told = []
    for _ in range(source.choice([1, 2, 3])):
        one = term(3)
        if not plain and source.random() < 0.15:
            told.append(("star", source.choice(sources)[2]))
        elif isinstance(one, tuple) and len(one) == 2:
            told.append(("column", one, source.choice([one[1], "x"])))
        else:
            told.append(("term", one, source.choice(MORE_COLUMNS)))
    if plain:
        told = [item for at, item in enumerate(told) if item[2] not in [other[2] for other in told[:at]]]
    conditions = []
    for _ in range(source.choice([0, 0, 1, 2])):
        conditions.append(source.choice([("equal", column(), column()), ("in", column(), make_values(source))]))
    return (not plain and source.random() < 0.3, tuple(told), tuple(sources), tuple(conditions))


def make_any(source, catalog):
    """Return any statement, fitting more often than not, with a path and a role."""
    if source.random() < 0.2 or not tables_of(catalog):
        statement = make_statement(source)
    else:
        statement = make_fitting_statement(source, catalog)
    return statement, make_path(source), source.choice(ROLES)


def make_fact(source):
    """Return any fact with names."""
    kind = source.choice(["key", "key", "in", "ref", "ref", "ref"])
    names = some(source, COLUMNS[:2], 1, source.choice([1, 1, 2]))
    if kind == "key":
        return ("key", tuple(names))
    if kind == "in":
        return ("in", source.choice(COLUMNS), make_values(source))
    columns = tuple([source.choice(COLUMNS[:2]) for _ in names])
    return ("ref", columns, source.choice(SCHEMAS), source.choice(NAMES), tuple(names))


def make_place(source):
    return (source.choice(SCHEMAS), source.choice(NAMES))


def make_columns(source):
    """Return the columns of a new table, mostly of one type."""
    names = some(source, MORE_COLUMNS, 1, 3)
    return tuple([(name, source.choice(["text", "text", "text", "text", "word", "num"])) for name in names])


def make_building_deed(source):
    """Return any deed that creates, declares or gives something."""
    place, role = make_place(source), source.choice(ROLES)
    types = tuple([source.choice(TYPES) for _ in range(source.choice([1, 1, 2]))])
    deeds = [("table", *place, make_columns(source))] * 6 + [("grant", role, *place)] * 6
    deeds += [("view", *place, make_statement(source, plain=True), make_path(source))]
    deeds += [("function", place[0], source.choice(CALLS), types, source.choice(TYPES))] * 6
    deeds += [("fact", *place, make_fact(source))] * 6
    deeds += [("rule", role, *place, source.choice(COLUMNS), make_values(source))] * 2
    deeds += [("column", *place, source.choice(COLUMNS), source.choice(TYPES))]
    return source.choice(deeds)


def make_other_deed(source):
    """Return any deed that takes something away or gives another name."""
    place, role = make_place(source), source.choice(ROLES)
    types = tuple([source.choice(TYPES) for _ in range(source.choice([1, 1, 2]))])
    call, column = source.choice(CALLS), source.choice(COLUMNS)
    return source.choice([
        ("drop", *place), ("drop function", place[0], call, types), ("rename", *place, source.choice(NAMES)),
        ("rename function", place[0], call, types, source.choice(CALLS)), ("revoke", role, *place),
        ("rename column", *place, column, source.choice(COLUMNS)), ("drop column", *place, column),
        ("drop fact", *place, make_fact(source)), ("drop rule", role, *place),
    ])


def make_deed(source, building=0.7):
    return make_building_deed(source) if source.random() < building else make_other_deed(source)


def tried(catalog, deed):
    """Return the catalog behind a deed, or the same one if the deed is refused."""
    try:
        return after_deed(catalog, deed)
    except BoundError:
        return catalog


def make_catalog(source, deeds=60):
    """Return any catalog with a few tables, views and functions; each role has many rights."""
    catalog = Catalog(TYPES, CASTS)
    for _ in range(deeds):
        catalog = tried(catalog, make_building_deed(source))
        if tables_of(catalog) and source.random() < 0.25:
            statement = make_fitting_statement(source, catalog, plain=True)
            catalog = tried(catalog, ("view", *make_place(source), statement, make_path(source)))
    for role in ROLES:
        for schema in SCHEMAS:
            for name in NAMES:
                if source.random() < 0.95:
                    catalog = tried(catalog, ("grant", role, schema, name))
    return catalog


def make_table_catalog(source, deeds=40):
    """Return any catalog with tables and facts alone."""
    catalog = Catalog(("text",))
    for name in NAMES:
        columns = COLUMNS[:source.choice([1, 2, 2, 3])]
        catalog = after_deed(catalog, ("table", "main", name, tuple([(column, "text") for column in columns])))
    for call, types in (("f", ("text",)), ("g", ("text", "text"))):
        catalog = after_deed(catalog, ("function", "main", call, types, "text"))
    for _ in range(source.choice([0, 3, deeds])):
        fact = make_fact(source)
        if fact[0] == "ref":
            fact = fact[:2] + ("main",) + fact[3:]
        if fact[0] != "in" or source.random() < 0.4:
            catalog = tried(catalog, ("fact", "main", source.choice(NAMES), fact))
    return catalog


def tables_of(catalog):
    """Return the numbers of the tables of a catalog."""
    return [number for number in catalog.all_numbers if catalog.thing_of(number)[0] == "table"]


def facts_in(catalog):
    """Return the ascending list of all declared facts as pairs (table, fact)."""
    return sorted([(table, fact) for table in tables_of(catalog) for fact in catalog.facts_of(table)])


def closed_facts(source, catalog):
    """Return some of the declared facts, with a reference the key to which it leads, in any order."""
    facts = facts_in(catalog)
    found = [pair for pair in facts if source.random() < 0.6]
    for _, fact in list(found):
        if fact[0] == "ref" and (fact[2], ("key", fact[3])) not in found:
            found.append((fact[2], ("key", fact[3])))
    source.shuffle(found)
    return found


def make_plan(source, catalog, rows=3):
    """Return any plan of a catalog with tables and facts alone, by its binding."""
    catalog = open_to(catalog, "boss")
    while True:
        try:
            return plan_of(catalog, binding_of(catalog, make_plan_statement(source, rows), ("main",), "boss"))
        except BoundError:
            pass


def open_to(catalog, role):
    """Return a catalog in which a role has all rights."""
    for name in NAMES:
        catalog = tried(catalog, ("grant", role, "main", name))
    return catalog


def make_plan_statement(source, rows):
    """Return any statement over tables of few names, with conditions between them."""
    labels = ["a", "b", "c", "d"][:source.randint(1, rows)]
    names = some(source, NAMES, 1, 2)
    sources = tuple([("main", source.choice(names), label) for label in labels])
    told = []
    for _ in range(source.choice([1, 1, 2])):
        kind = source.random()
        if kind < 0.75:
            told.append(("column", make_column(source, labels), "x"))
        elif kind < 0.9:
            terms = tuple([make_column(source, labels) for _ in range(source.choice([1, 2]))])
            told.append(("term", ("call", "main", "f" if len(terms) == 1 else "g", terms), "x"))
        else:
            told.append(("term", source.choice(VALUES), "x"))
    conditions = []
    for _ in range(source.choice([0, 1, 2, 3])):
        column = make_column(source, labels)
        if source.random() < 0.75:
            conditions.append(("equal", column, make_column(source, labels)))
        else:
            conditions.append(("in", column, make_values(source)))
    return (source.random() < 0.4, tuple(told), sources, tuple(conditions))


def make_data(source, catalog, facts, rows=3, tries=200):
    """Return any data that keep facts, with few rows; None if none are found."""
    for _ in range(tries):
        data = {}
        for table in tables_of(catalog):
            size = len(catalog.thing_of(table)[3])
            data[table] = [tuple([source.choice("abcd") for _ in range(size)]) for _ in range(source.randint(0, rows))]
        if keeps(catalog, data, facts):
            return data
    return None


def make_pair(source, catalog):
    """Return two plans, often of the same statement, perhaps with less in the second one."""
    one = make_plan(source, catalog)
    two = make_plan(source, catalog) if source.random() < 0.3 else one
    if source.random() < 0.4:
        two = (not two[0],) + two[1:]
    for _ in range(source.choice([0, 1, 2])):
        parts = parts_of(two)
        if parts:
            two = without_part(two, source.choice(parts))
    return one, two


def fact_deed(catalog, word, pair):
    """Return the deed ("fact", ..) or ("drop fact", ..) for a fact as the catalog tells it."""
    table, fact = pair

    def names(columns):
        return tuple([catalog.thing_of(column)[2] for column in columns])

    place = catalog.thing_of(table)[1:3]
    if fact[0] == "in":
        return (word, *place, ("in", names([fact[1]])[0], fact[2]))
    if fact[0] == "key":
        return (word, *place, ("key", names(fact[1])))
    return (word, *place, ("ref", names(fact[1]), *catalog.thing_of(fact[2])[1:3], names(fact[3])))
