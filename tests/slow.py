"""What the document says of bindings, plans and cases, done once more and slowly.

Nothing here is taken from the package but the catalogs that are asked; names
are looked up in all that stands in a catalog, and plans are run on data.
"""

import itertools


def standing(catalog, schema, name):
    """Return the numbers of the tables and views in a schema under a name."""
    found = []
    for number in catalog.all_numbers:
        thing = catalog.thing_of(number)
        if thing[0] in ("table", "view") and thing[1:3] == (schema, name):
            found.append(number)
    return found


def found_first(catalog, path, schema, name):
    """Return the number of the table or view that is meant, or None."""
    for at in (path if schema is None else [schema]):
        for number in standing(catalog, at, name):
            return number
    return None


def candidates(catalog, path, schema, name, size):
    """Return the functions of a call: of each list of types the first one."""
    schemas = list(path) if schema is None else [schema]
    found = {}
    for number in catalog.all_numbers:
        thing = catalog.thing_of(number)
        if thing[0] == "function" and thing[1] in schemas and thing[2] == name and len(thing[3]) == size:
            at = schemas.index(thing[1])
            found[thing[3]] = min(found.get(thing[3], (at, number)), (at, number))
    return [number for _, number in found.values()]


def choice(catalog, path, schema, name, given):
    """Return the best function, or the word of why there is none."""
    fitting = []
    for number in candidates(catalog, path, schema, name, len(given)):
        casts = set()
        fit = True
        for at, (one, two) in enumerate(zip(given, catalog.thing_of(number)[3])):
            if one is not None and one != two:
                casts.add(at)
                fit = fit and (one, two) in catalog.casts
        if fit:
            fitting.append((number, casts))
    best = [number for number, casts in fitting if all(casts < other for one, other in fitting if one != number)]
    if best:
        return best[0]
    return "Ambiguous" if fitting else "Unknown"


class Refusal(Exception):
    """A statement is refused: word, views, part, index."""


def bound(catalog, statement, path, role, views=()):
    """Return the binding of a statement and a list of (name, term, type, is a call), or raise Refusal."""
    rows = []
    for index, (schema, name, label) in enumerate(statement[2]):
        number = found_first(catalog, path, schema, name)
        if number is None:
            raise Refusal("Unknown", views, "source", index)
        if views == () and not catalog.has_right(role, number):
            raise Refusal("NoRight", views, "source", index)
        thing = catalog.thing_of(number)
        if thing[0] == "table":
            columns = [(catalog.thing_of(column)[2], column, catalog.thing_of(column)[3], False) for column in thing[3]]
            rows.append((label, ("table", number, catalog.rule_for(role, number)), columns))
            continue
        if number in views:
            raise Refusal("Ring", views, "source", index)
        inner, told = bound(catalog, thing[3], thing[4], role, views + (number,))
        columns = [(name, at, kind, call) for at, (name, _, kind, call) in enumerate(told)]
        rows.append((label, ("view", number, inner), columns))

    def column(label, name, part, index):
        if not [row for row in rows if label is None or row[0] == label]:
            raise Refusal("Unknown", views, part, index)
        found = [(at, entry) for at, row in enumerate(rows) if label in (None, row[0])
                 for entry in row[2] if entry[0] == name]
        if len(found) != 1:
            raise Refusal("Ambiguous" if found else "Unknown", views, part, index)
        at, (_, thing, kind, call) = found[0]
        return ("column", at, thing), kind, call

    def term(one, part, index):
        if isinstance(one, str):
            return one, None, False
        if len(one) == 2:
            return column(*one, part, index)
        inner = [term(other, part, index) for other in one[3]]
        number = choice(catalog, path, one[1], one[2], [kind for _, kind, _ in inner])
        if isinstance(number, str):
            raise Refusal(number, views, part, index)
        return ("call", number, tuple(other for other, _, _ in inner)), catalog.thing_of(number)[4], True

    told = []
    for index, item in enumerate(statement[1]):
        if item[0] == "star":
            found = [(at, row) for at, row in enumerate(rows) if row[0] == item[1]]
            if not found:
                raise Refusal("Unknown", views, "told", index)
            at, row = found[0]
            told += [(name, ("column", at, thing), kind, call) for name, thing, kind, call in row[2]]
        else:
            told.append((item[2], *term(item[1], "told", index)))
    conditions = []
    for index, condition in enumerate(statement[3]):
        sides = []
        for side in condition[1:] if condition[0] == "equal" else condition[1:2]:
            sides.append(column(*side, "condition", index))
            if sides[-1][2]:
                raise Refusal("OnCall", views, "condition", index)
        if len(sides) == 2 and sides[0][1] != sides[1][1]:
            raise Refusal("Mismatch", views, "condition", index)
        conditions.append((condition[0], sides[0][0], sides[1][0] if len(sides) == 2 else condition[2]))
    binding = (statement[0], tuple((name, one) for name, one, _, _ in told),
               tuple(row[1] for row in rows), tuple(conditions))
    return binding, told


def bound_or_refusal(catalog, statement, path, role):
    """Return the binding and None, or None and the refusal."""
    try:
        return bound(catalog, statement, path, role)[0], None
    except Refusal as refusal:
        return None, refusal.args


def counted(rows):
    """Return a dict from things to how often they are in a list."""
    found = {}
    for row in rows:
        found[row] = found.get(row, 0) + 1
    return found


def called(number, terms, flat):
    return ("call",) if flat else ("call", number, tuple(terms))


def said(catalog, binding, data, flat=False):
    """Return the list of rows that a binding says on data."""
    choices = []
    for source in binding[2]:
        if source[0] == "view":
            choices.append(said(catalog, source[2], data, flat))
            continue
        columns = catalog.thing_of(source[1])[3]
        rows = [dict(zip(columns, row)) for row in data[source[1]]]
        choices.append([row for row in rows if source[2] is None or row[source[2][0]] in source[2][1]])

    def worth(term, chosen):
        if isinstance(term, str):
            return term
        if term[0] == "column":
            return chosen[term[1]][term[2]]
        return called(term[1], [worth(part, chosen) for part in term[2]], flat)

    found = []
    for chosen in itertools.product(*choices):
        meets = True
        for word, column, other in binding[3]:
            one = worth(column, chosen)
            meets = meets and (one == worth(other, chosen) if word == "equal" else one in other)
        if meets:
            found.append(tuple(worth(term, chosen) for _, term in binding[1]))
    return list(dict.fromkeys(found)) if binding[0] else found


def answers(catalog, plan, data, flat=False):
    """Return the answers of a plan on data."""
    distinct, told, rows, lists = plan

    def worth(term, known):
        if isinstance(term, tuple):
            return called(term[1], [worth(part, known) for part in term[2]], flat)
        return term if isinstance(term, str) else known[term]

    found = []
    for chosen in itertools.product(*[data[table] for table, _ in rows]):
        known, fits = {}, True
        for (table, columns), row in zip(rows, chosen):
            values = dict(zip(catalog.thing_of(table)[3], row))
            for column, term in columns:
                value = values[column]
                if isinstance(term, str):
                    fits = fits and value == term
                else:
                    fits = fits and known.setdefault(term, value) == value
                    fits = fits and (lists[term] is None or value in lists[term])
        if fits:
            found.append(tuple(worth(term, known) for term in told))
    return {row: 1 for row in found} if distinct else counted(found)


def work(plan, data):
    """Return how many choices of rows there are for a plan."""
    found = 1
    for table, _ in plan[2]:
        found *= len(data[table])
    return found


def case_answers(catalog, cases, data, flat=False):
    """Return the answers of several cases together."""
    found = {}
    for told, rows in cases:
        numbers = [term for _, terms in rows for term in terms if not isinstance(term, str)]
        plain = tuple((table, tuple(zip(catalog.thing_of(table)[3], terms))) for table, terms in rows)
        plan = (False, told, plain, (None,) * (max(numbers, default=-1) + 1))
        for row, many in answers(catalog, plan, data, flat).items():
            found[row] = found.get(row, 0) + many
    return found


def keeps(catalog, data, facts):
    """Return whether data keep facts, pairs (table, fact)."""
    for table, fact in facts:
        columns = catalog.thing_of(table)[3]
        rows = [dict(zip(columns, row)) for row in data[table]]
        if fact[0] == "key":
            seen = [tuple(row[column] for column in fact[1]) for row in rows]
            fine = len(seen) == len(set(seen))
        elif fact[0] == "in":
            fine = all(row[fact[1]] in fact[2] for row in rows)
        else:
            there = [dict(zip(catalog.thing_of(fact[2])[3], row)) for row in data[fact[2]]]
            keys = {tuple(row[column] for column in fact[3]) for row in there}
            fine = all(tuple(row[column] for column in fact[1]) in keys for row in rows)
        if not fine:
            return False
    return True


def frozen(catalog, rows, worth):
    """Return data of the rows of a case, with a value for each class; equal rows only once."""
    data = {number: [] for number in catalog.all_numbers if catalog.thing_of(number)[0] == "table"}
    for table, terms in rows:
        row = tuple(term if isinstance(term, str) else worth[term] for term in terms)
        if row not in data[table]:
            data[table].append(row)
    return data


def is_plan(catalog, thing):
    """Return whether a thing is a plan of a catalog, looked at one requirement after another."""
    try:
        return plan_fits(catalog, thing)
    except (TypeError, ValueError, KeyError, IndexError):
        return False


def plan_fits(catalog, thing):
    things = {number: catalog.thing_of(number) for number in catalog.all_numbers}
    distinct, told, rows, lists = thing
    if [type(part) for part in (thing, distinct, told, rows, lists)] != [tuple, bool, tuple, tuple, tuple]:
        return False
    order, places = [], {}

    def term(one, calls):
        if type(one) is tuple:
            word, number, terms = one
            return (calls and word == "call" and type(number) is int and things[number][0] == "function"
                    and type(terms) is tuple and len(terms) == len(things[number][3]) and all([term(part, True) for part in terms]))
        if type(one) is int:
            order.append(one)
            return 0 <= one < len(lists)
        return type(one) is str and 1 <= len(one) <= 8 and all("a" <= letter <= "z" for letter in one)

    if not told or not all([term(one, True) for one in told]) or not 1 <= len(rows) <= 4:
        return False
    spoken = set(order)
    for row in rows:
        table, columns = row
        if [type(part) for part in (row, table, columns)] != [tuple, int, tuple] or things[table][0] != "table":
            return False
        last = -1
        for pair in columns:
            column, one = pair
            if type(pair) is not tuple or type(column) is not int or column <= last or column not in things[table][3] or not term(one, False):
                return False
            last = column
            places.setdefault(one, []).append(things[column][3])
    for number, values in enumerate(lists):
        if values is not None:
            ordered = type(values) is tuple and all(type(value) is str and value.isalpha() and value.islower() for value in values)
            if not ordered or list(values) != sorted(set(values)) or len(values) not in (0, 2, 3, 4, 5, 6, 7, 8) or max(map(len, values), default=1) > 8:
                return False
        if len(set(places[number])) != 1 or not (number in spoken or values is not None or len(places[number]) > 1):
            return False
    return list(dict.fromkeys(order)) == list(range(len(lists)))


def renumbered(plan):
    """Return a plan with its classes numbered as they occur in what is told, then in rows."""
    distinct, told, rows, lists = plan
    order = {}

    def named(term):
        if isinstance(term, tuple):
            return ("call", term[1], tuple([named(part) for part in term[2]]))
        return term if isinstance(term, str) else order.setdefault(term, len(order))

    told = tuple([named(term) for term in told])
    rows = tuple([(table, tuple([(column, named(term)) for column, term in columns])) for table, columns in rows])
    return distinct, told, rows, tuple([lists[number] for number in order])


def doubled(plan):
    """Return the plan, not distinct, with each row twice and what is told outside of calls equal; it tells both."""
    distinct, told, rows, lists = plan
    shared = [term for term in told if isinstance(term, int)]

    def twin(term):
        if isinstance(term, tuple):
            return ("call", term[1], tuple([twin(part) for part in term[2]]))
        return term if isinstance(term, str) or term in shared else term + len(lists)

    twins = tuple([(table, tuple([(column, twin(term)) for column, term in columns])) for table, columns in rows])
    both = (False, told + tuple([twin(term) for term in told]), rows + twins, lists + lists)
    return renumbered(both)


def images(catalog, case, most):
    """Return up to so many data that are images of the rows of a case: each class stands for any value."""
    classes = sorted({term for _, terms in case[1] for term in terms if isinstance(term, int)})
    found = []

    def go(at, worth, fresh):
        if len(found) >= most:
            return
        if at == len(classes):
            found.append(frozen(catalog, case[1], worth))
            return
        # A value of its own first, so that the image that is most like the case comes first.
        names = ["q" + chr(97 + number // 26) + chr(97 + number % 26) for number in range(fresh + 1)]
        for value in names[::-1] + ["a", "b", "c"]:
            go(at + 1, {**worth, classes[at]: value}, fresh + (value == names[-1]))

    go(0, {}, 0)
    return found


def doubled_rows(data, keyed):
    """Return data in which the rows of tables without a key stand twice."""
    return {table: data[table] * (1 if table in keyed else 2) for table in data}


def parting(catalog, one, two, datas):
    """Return the first of several data on which two plans have different answers in one of the meanings, or None."""
    for data in datas:
        for flat in (False, True):
            if answers(catalog, one, data, flat) != answers(catalog, two, data, flat):
                return data
    return None
