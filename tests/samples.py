"""Things to test with: any objects, things with one part exchanged, and things made by a seed."""

from boundonce.catalogs import Catalog
from boundonce.deeds import after_deed

LETTERS = "abcdefghijklmnopqrstuvwxyz"
RESERVED = ["select", "distinct", "as", "from", "where", "and", "in"]
NAMES = ["a", "b", "main", "emp", "call", "star", "column", "abcdefgh"]
VALUES = ["a", "ulm", "rom", "select", "distinct", "in", "where", "as", "from", "and"]


def deep(thing, levels, kind):
    """Return a thing within so many tuples, lists or dicts."""
    for _ in range(levels):
        thing = {"a": thing} if kind is dict else kind([thing])
    return thing


def shown(thing):
    """Return the beginning of how Python shows a thing."""
    try:
        return repr(thing)[:200]
    except RecursionError:
        return "a very deep thing"


def any_objects():
    """Return things of all kinds that a call may be given."""
    catalog = after_deed(Catalog(("text",)), ("table", "main", "emp", (("name", "text"),)))
    strings = ["", " ", "\n", "\t", "a", "a\n", "\na", "a ", "A", "Main", "a1", "1", "_", "a_b", "a.b", "main", "x" * 5000]
    strings += LETTERS[:7], LETTERS[:8], LETTERS[:9], "ABCDEFGH", "'a'", "(", ")", "%", "{", "`", "~"
    numbers = [0, 1, 2, -1, 7, 10**39, 10**40 - 1, -(10**39), True, False, None]
    rows = [(), (None,), (True,), ("a",), ("b", "a"), ("a", "b"), ("a", "a"), (1,), (0, 1), ((),), ([],), ("a", ["b"])]
    lists = [[], ["a"], ["a", "b"], [[]], [None], [0], [("a", "b")], list(LETTERS) * 190]
    dicts = [{}, {"a": 1}, {0: "a"}, {True: []}, {(1, ("a", False)): {}}]
    nested = [deep(thing, levels, kind) for thing in ("a", None) for levels in (1, 19, 20) for kind in (tuple, list, dict)]
    return strings + RESERVED + numbers + rows + lists + dicts + nested + [catalog, (catalog,), [catalog]]


def very_large_objects():
    """Return things larger and deeper than any name, path, statement or deed, but begun like these."""
    calls = "a"
    for _ in range(5000):
        calls = ("call", None, "f", (calls,))
    source = (None, "a", "a")
    found = [deep("a", 5000, kind) for kind in (tuple, list, dict)]
    found += [("a",) * 5000, tuple(LETTERS), (source,) * 5000, calls]
    found += [(False, (("term", calls, "a"),), (source,), ()), (False, (("star", "a"),) * 5000, (source,), ())]
    found += [("fact", "a", "a", found[0]), ("function", "a", "a", found[0], "a"), ("table", "a", "a", found[3])]
    return found


EXCHANGED_FOR = [None, True, False, 0, 1, "", "a", "z", "in", "abcdefghi", (), ("a",), ("a", "b"), [], ["a"], {}, "call"]


def variants(thing):
    """Return things that differ from a thing in one part, at any depth."""
    found = list(EXCHANGED_FOR)
    if isinstance(thing, str):
        found += [thing + "x", thing.upper(), thing + "\n", thing[:-1]]
    if isinstance(thing, (tuple, list)):
        kind = list if isinstance(thing, tuple) else tuple
        found.append(kind(thing))
        found.append(type(thing)(reversed(thing)))
        for at, part in enumerate(thing):
            found += [thing[:at] + thing[at + 1:], thing[:at] + thing[at:at + 1] * 2 + thing[at + 1:]]
            for other in variants(part):
                found.append(thing[:at] + type(thing)([other]) + thing[at + 1:])
    return found


def make_name(random):
    """Return any name, often one of a few."""
    if random.random() < 0.8:
        return random.choice(NAMES)
    while True:
        word = "".join([random.choice(LETTERS) for _ in range(random.randint(1, 8))])
        if word not in RESERVED:
            return word


def make_values(random):
    """Return any ascending tuple of values."""
    return tuple(sorted(set(random.choice(VALUES) for _ in range(random.randint(1, 8)))))


def make_column(random):
    """Return any column of a statement."""
    return (random.choice([None, make_name(random)]), make_name(random))


def make_call(random, deepest, plain=False):
    """Return any call with at most so many within one another, without values if it is plain."""
    terms = []
    for _ in range(random.randint(1, 2)):
        kinds = ["column"] + ["value"] * (not plain) + ["call"] * (deepest > 1)
        kind = random.choice(kinds)
        if kind == "column":
            terms.append(make_column(random))
        elif kind == "value":
            terms.append(random.choice(VALUES))
        else:
            terms.append(make_call(random, deepest - 1, plain))
    return ("call", random.choice([None, make_name(random)]), make_name(random), tuple(terms))


def make_told(random, plain):
    """Return any told thing, for a view if it is plain."""
    kind = random.choice(["column", "named", "call"] + ["star", "value"] * (not plain))
    if kind == "star":
        return ("star", make_name(random))
    if kind == "value":
        return ("term", random.choice(VALUES), make_name(random))
    if kind == "call":
        return ("term", make_call(random, 3, plain), make_name(random))
    column = make_column(random)
    return ("column", column, column[1] if kind == "column" else make_name(random))


def make_condition(random):
    """Return any condition."""
    if random.random() < 0.5:
        return ("equal", make_column(random), make_column(random))
    return ("in", make_column(random), make_values(random))


def make_statement(random, plain=False):
    """Return any statement, one for views if it is plain."""
    told, sources = [], []
    for _ in range(random.randint(1, random.choice([2, 8]))):
        item = make_told(random, plain)
        if not plain or item[2] not in [other[2] for other in told]:
            told.append(item)
    for _ in range(random.randint(1, 4)):
        name = make_name(random)
        label = random.choice([name, make_name(random)])
        if label not in [source[2] for source in sources]:
            sources.append((random.choice([None, make_name(random)]), name, label))
    conditions = [make_condition(random) for _ in range(random.choice([0, 0, 1, 2, 8]))]
    return (not plain and random.random() < 0.3, tuple(told), tuple(sources), tuple(conditions))


def make_path(random):
    """Return any path."""
    path = []
    for _ in range(random.randint(0, 6)):
        name = make_name(random)
        if name not in path:
            path.append(name)
    return tuple(path)


SCHEMAS, TABLES, COLUMNS, ROLES = ["main", "own"], ["t", "u", "v"], ["x", "y", "z"], ["boss", "kim"]
SOME_TYPES = ["text", "text", "text", "word", "word", "word", "number"]


def make_fact(random):
    """Return any fact with names, as a deed has it; its columns are often the same few."""
    kind = random.choice(["key", "key", "in", "ref", "ref", "ref"])
    some = random.sample(COLUMNS, random.choice([1, 1, 1, 2, 3]))
    if kind == "key":
        return ("key", tuple(some))
    if kind == "in":
        return ("in", random.choice(COLUMNS), make_values(random))
    columns = tuple([random.choice(COLUMNS) for _ in some])
    return ("ref", columns, random.choice(SCHEMAS), random.choice(TABLES), tuple(some))


def make_deed(random):
    """Return any deed of any kind; names are few, so that many can be done and many are refused."""
    place = (random.choice(SCHEMAS), random.choice(TABLES))
    role = random.choice(ROLES)
    column = random.choice(COLUMNS)
    kind = random.choice(SOME_TYPES)
    types = tuple([random.choice(SOME_TYPES) for _ in range(random.randint(1, 2))])
    other = random.choice(TABLES)
    columns = tuple([(name, random.choice(SOME_TYPES)) for name in random.sample(COLUMNS, random.randint(1, 3))])
    deeds = [("table", *place, columns)] * 6 + [("fact", *place, make_fact(random))] * 9
    deeds += [("function", *place, types, kind)] * 2 + [("column", *place, column, kind)] * 2
    deeds += [("grant", role, *place), ("rule", role, *place, column, make_values(random))] * 3
    deeds += [("view", *place, make_statement(random, plain=True), make_path(random)), ("drop", *place)]
    deeds += [("drop function", *place, types), ("rename", *place, other), ("rename function", *place, types, other)]
    deeds += [("rename column", *place, column, random.choice(COLUMNS)), ("drop column", *place, column)]
    deeds += [("drop fact", *place, make_fact(random)), ("revoke", role, *place), ("drop rule", role, *place)]
    deeds += [("drop rule", role, *place), ("drop column", *place, column), ("rename function", *place, types, other)]
    return random.choice(deeds)
