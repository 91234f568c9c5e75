"""Data on which two plans part, with as few rows as possible."""

from boundonce.chase import cases_by
from boundonce.data import answers_to, is_data
from boundonce.folding import Folding
from boundonce.likeness import alike, cases_twice
from boundonce.shapes import Shapes
from boundonce.terms import in_order


def parting_data(catalog, one, two):
    """Return any data with as few rows as possible on which two plans have different answers, or None."""
    if alike(catalog, one, two):
        return None
    shapes = Shapes(catalog)
    cases = rows_to_fold(shapes, one, two)
    used = strings_in([one, two, cases])
    for size in range(1, max([len(rows) for rows in cases]) + 1):
        for rows in cases:
            folding = Folding(shapes, rows, size, used)
            data = folding.next_data()
            while data is not None:
                if answers_differ(catalog, one, two, data):
                    return data
                data = folding.next_data()
    return None


def fewest_rows(catalog, one, two):
    """Return how many rows the least data have on which two plans part, or None."""
    data = parting_data(catalog, one, two)
    return None if data is None else sum([len(data[table]) for table in data])


def is_parting_data(catalog, one, two, thing):
    """Return whether any object is data on which two plans have different answers."""
    return is_data(catalog, thing) and answers_differ(catalog, one, two, thing)


def answers_differ(catalog, one, two, data):
    """Return whether two plans have different answers on data, in the plain meaning or in the flat one."""
    for flat in (False, True):
        if answers_to(catalog, one, data, flat=flat) != answers_to(catalog, two, data, flat=flat):
            return True
    return False


def rows_to_fold(shapes, one, two):
    """Return a list of the rows of all cases of which least data may come, each once, the fewest rows first."""
    cases = cases_by(shapes, one) + cases_by(shapes, two)
    if one[0] != two[0]:
        cases = cases + cases_twice(shapes, two if one[0] else one)
    found = {}
    for _, rows in cases:
        rows = in_order((), rows)[1]
        found[repr(rows)] = rows
    return sorted(list(found.values()), key=len)


def strings_in(things):
    """Return a dict of all strings that stand in tuples and lists, however deep."""
    found = {}
    waiting = list(things)
    while waiting:
        thing = waiting.pop()
        if isinstance(thing, str):
            found[thing] = True
        elif isinstance(thing, (tuple, list)):
            waiting.extend(list(thing))
    return found
