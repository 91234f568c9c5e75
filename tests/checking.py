"""What the document says of data, papers, least data, legs and ends, looked for slowly.

Of the package only catalogs, cases and likeness are asked here; the tests of
these compare them with what tests/slow.py finds.
"""

import itertools

from boundonce.cases import cases_of
from boundonce.likeness import alike, tells_once
from tests import slow, worlds


def is_value(thing):
    return type(thing) is str and 1 <= len(thing) <= 8 and all("a" <= letter <= "z" for letter in thing)


def is_data(catalog, thing):
    """Return whether a thing is data of a catalog."""
    tables = worlds.tables_of(catalog)
    if type(thing) is not dict or [type(key) for key in thing] != [int] * len(tables) or sorted(thing) != tables:
        return False
    for table in tables:
        if type(thing[table]) is not list:
            return False
        for row in thing[table]:
            if type(row) is not tuple or len(row) != len(catalog.thing_of(table)[3]) or not all(map(is_value, row)):
                return False
    return slow.keeps(catalog, thing, worlds.facts_in(catalog))


def parts(catalog, one, two, data):
    """Return whether two plans have different answers on data in one of the two meanings."""
    return slow.parting(catalog, one, two, [data]) is not None


def data_of_size(catalog, size, values):
    """Return all data with just so many rows of some values, whether they keep the facts or not."""
    rows = []
    for table in worlds.tables_of(catalog):
        for row in itertools.product(values, repeat=len(catalog.thing_of(table)[3])):
            rows.append((table, row))
    for chosen in itertools.combinations_with_replacement(rows, size):
        data = {table: [] for table in worlds.tables_of(catalog)}
        for table, row in chosen:
            data[table].append(row)
        yield data


def fewer_rows_part(catalog, one, two, size, values="abcpq"):
    """Return data with fewer rows on which two plans part, or None if there are none of these values."""
    facts = worlds.facts_in(catalog)
    for fewer in range(size):
        for data in data_of_size(catalog, fewer, values):
            if slow.keeps(catalog, data, facts) and parts(catalog, one, two, data):
                return data
    return None


def turned(case, order, numbers):
    """Return a case with its rows in another order and other numbers for its classes."""
    def named(term):
        if isinstance(term, tuple):
            return ("call", term[1], tuple([named(part) for part in term[2]]))
        return term if isinstance(term, str) else numbers[term]
    told = tuple([named(term) for term in case[0]])
    return told, tuple([(case[1][at][0], tuple([named(term) for term in case[1][at][1]])) for at in order])


def count_of(case):
    """Return how many classes a case has."""
    return len({term for _, terms in case[1] for term in terms if isinstance(term, int)})


def best_form(case):
    """Return how a case is shown when its rows are ordered in the best way, and its classes numbered as they stand."""
    found = []
    for order in itertools.permutations(range(len(case[1]))):
        spoken = []

        def speak(term):
            for part in term[2] if isinstance(term, tuple) else [term]:
                if isinstance(part, tuple):
                    speak(part)
                elif isinstance(part, int) and part not in spoken:
                    spoken.append(part)
        for term in list(case[0]) + [term for at in order for term in case[1][at][1]]:
            speak(term)
        found.append(repr(turned(case, order, {number: at for at, number in enumerate(spoken)})))
    return min(found)


def is_case(catalog, thing):
    """Return whether a thing has the form of a case."""
    if type(thing) is not tuple or len(thing) != 2 or [type(part) for part in thing] != [tuple, tuple]:
        return False
    seen = set()
    for row in thing[1]:
        if type(row) is not tuple or len(row) != 2 or type(row[0]) is not int or type(row[1]) is not tuple:
            return False
        if row[0] not in worlds.tables_of(catalog) or len(row[1]) != len(catalog.thing_of(row[0])[3]):
            return False
        for term in row[1]:
            if type(term) is int:
                seen.add(term)
            elif not is_value(term):
                return False

    def is_term(term):
        if type(term) is tuple:
            if len(term) != 3 or term[0] != "call" or type(term[1]) is not int or type(term[2]) is not tuple:
                return False
            return all([is_term(part) for part in term[2]])
        return term in seen if type(term) is int else is_value(term)

    return sorted(seen) == list(range(len(seen))) and all([is_term(term) for term in thing[0]])


def are_cases(catalog, plan, thing):
    """Return whether a thing is the list of the cases of a plan as it may be returned."""
    if type(thing) is not list or not all([is_case(catalog, case) for case in thing]):
        return False
    return sorted([best_form(case) for case in thing]) == sorted([best_form(case) for case in cases_of(catalog, plan)])


def leads(one, other, known, lists=None):
    """Return whether a term leads to another one; known keeps what classes lead to. lists is that of a plan."""
    if isinstance(one, tuple):
        if not isinstance(other, tuple) or len(one[2]) != len(other[2]) or one[1] != other[1]:
            return False
        return all([leads(part, there, known, lists) for part, there in zip(one[2], other[2])])
    if isinstance(one, str) or isinstance(other, tuple):
        return one == other
    if lists is None and isinstance(other, str) or lists and lists[one] is not None and other not in lists[one]:
        return False
    return known.setdefault(one, other) == other


def are_numbers(thing, size, many):
    """Return whether a thing is a list of so many indexes of so many things."""
    return type(thing) is list and len(thing) == size and all([type(at) is int and 0 <= at < many for at in thing])


def is_pair_of_cases(ones, twos, thing):
    if type(thing) is not tuple or len(thing) != 3 or not are_numbers([thing[0]], 1, len(ones)) or not are_numbers([thing[1]], 1, len(twos)):
        return False
    case, other = ones[thing[0]], twos[thing[1]]
    if len(case[1]) != len(other[1]) or not are_numbers(thing[2], len(case[1]), len(case[1])) or len(set(thing[2])) != len(thing[2]):
        return False
    known = {}
    fine = len(case[0]) == len(other[0]) and all([leads(term, there, known) for term, there in zip(case[0], other[0])])
    for (table, terms), at in zip(case[1], thing[2]):
        there = other[1][at]
        fine = fine and table == there[0] and all([leads(term, part, known) for term, part in zip(terms, there[1])])
    return fine and len(set(known.values())) == len(known)


def is_way(catalog, plan, case, thing):
    _, told, rows, lists = plan
    if not are_numbers(thing, len(rows), len(case[1])):
        return False
    known = {}
    fine = len(told) == len(case[0]) and all([leads(term, there, known, lists) for term, there in zip(told, case[0])])
    for (table, columns), at in zip(rows, thing):
        other, terms = case[1][at]
        if table != other:
            return False
        places = catalog.thing_of(table)[3]
        fine = fine and all([leads(term, terms[places.index(column)], known, lists) for column, term in columns])
    return fine


def is_paper(catalog, one, two, thing):
    """Return whether a thing is a paper that two plans are alike."""
    if type(thing) is not tuple or not thing or type(thing[0]) is not str:
        return False
    if one[0] != two[0]:
        made = [(True,) + plan[1:] for plan in (one, two)]
        other = one if two[0] else two
        return thing[0] == "once" and len(thing) == 2 and tells_once(catalog, other) and is_paper(catalog, *made, thing[1])
    if thing[0] != ("ways" if one[0] else "cases") or len(thing) != (5 if one[0] else 4):
        return False
    ones, twos = thing[1:3]
    if not are_cases(catalog, one, ones) or not are_cases(catalog, two, twos):
        return False
    if one[0]:
        for plan, cases, ways in ((two, ones, thing[3]), (one, twos, thing[4])):
            if type(ways) is not list or len(ways) != len(cases):
                return False
            if not all([is_way(catalog, plan, case, way) for case, way in zip(cases, ways)]):
                return False
        return True
    pairs = thing[3]
    if type(pairs) is not list or not all([is_pair_of_cases(ones, twos, pair) for pair in pairs]):
        return False
    return all([sorted([pair[at] for pair in pairs]) == list(range(len(cases))) for at, cases in ((0, ones), (1, twos))])


def has_all(more, fewer):
    return all([pair in more for pair in fewer])


def parts_of_list(facts):
    """Return all parts of a list of facts, the smallest ones first."""
    return [list(chosen) for size in range(len(facts) + 1) for chosen in itertools.combinations(facts, size)]


def is_closed(facts):
    return all([fact[0] != "ref" or (fact[2], ("key", fact[3])) in facts for _, fact in facts])


def left_without(facts, some):
    """Return facts without some of them and without the references to keys among these."""
    return [(table, fact) for table, fact in facts
            if (table, fact) not in some and not (fact[0] == "ref" and (fact[2], ("key", fact[3])) in some)]


def legs(catalog, one, two):
    """Return the list of all legs."""
    found = []
    for some in parts_of_list(worlds.facts_in(catalog)):
        if is_closed(some) and not any([has_all(some, leg) for leg in found]) and alike(catalog, one, two, some):
            found.append(some)
    return sorted(found)


def ends(catalog, one, two):
    """Return the list of all ends."""
    found = []
    facts = worlds.facts_in(catalog)
    for some in parts_of_list(facts):
        if not any([has_all(some, end) for end in found]) and not alike(catalog, one, two, left_without(facts, some)):
            found.append(some)
    return sorted(found)


def leg_left(catalog, one, two):
    """Return the leg that is left if facts are left out, the last ones first."""
    left = worlds.facts_in(catalog)
    if not alike(catalog, one, two, left):
        return None
    for pair in worlds.facts_in(catalog)[::-1]:
        if pair in left and alike(catalog, one, two, left_without(left, [pair])):
            left = left_without(left, [pair])
    return left
