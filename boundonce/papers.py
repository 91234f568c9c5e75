"""Papers that two plans are alike: what anybody can check without a search."""

from boundonce.chase import cases_by
from boundonce.forms import begins_with_word, is_index, is_number, is_pair
from boundonce.likeness import tells_once_by
from boundonce.matching import CaseMap, PlanMap, placed_rows, rows_into
from boundonce.names import is_value
from boundonce.pairing import paired_cases
from boundonce.plans import are_terms
from boundonce.shapes import Shapes
from boundonce.terms import classes_in, in_order


def paper_for(catalog, one, two):
    """Return any paper that two plans are alike, or None if they are not."""
    shapes = Shapes(catalog)
    if one[0] == two[0]:
        return paper_of_ways(shapes, one, two) if one[0] else paper_of_cases(shapes, one, two)
    if not tells_once_by(shapes, two if one[0] else one):
        return None
    ways = paper_of_ways(shapes, one, two)
    return None if ways is None else ("once", ways)


def paper_of_cases(shapes, one, two):
    """Return a paper with pairs of the cases of two plans, or None."""
    ones, twos = cases_by(shapes, one), cases_by(shapes, two)
    pairs = paired_cases(ones, twos)
    return None if pairs is None else ("cases", ones, twos, pairs)


def paper_of_ways(shapes, one, two):
    """Return a paper with ways of each of two plans, made distinct, into the cases of the other one, or None."""
    ones, twos = cases_by(shapes, one), cases_by(shapes, two)
    forth = [rows_into(shapes, two, case) for case in ones]
    back = [rows_into(shapes, one, case) for case in twos]
    if None in forth or None in back:
        return None
    return ("ways", ones, twos, forth, back)


def is_paper(catalog, one, two, thing):
    """Return whether any object is a paper that two plans are alike."""
    shapes = Shapes(catalog)
    if one[0] == two[0]:
        return is_paper_of_ways(shapes, one, two, thing) if one[0] else is_paper_of_cases(shapes, one, two, thing)
    return (
        is_headed(thing, "once", 2)
        and is_paper_of_ways(shapes, one, two, thing[1])
        and tells_once_by(shapes, two if one[0] else one)
    )


def is_headed(thing, word, size):
    """Return whether any object is a tuple of so many parts that begins with a word."""
    return begins_with_word(thing) and len(thing) == size and thing[0] == word


def is_paper_of_cases(shapes, one, two, thing):
    """Return whether any object is a paper for two plans of which neither is distinct."""
    if not is_headed(thing, "cases", 4):
        return False
    _, ones, twos, pairs = thing
    if not are_cases(shapes, one, ones) or not are_cases(shapes, two, twos):
        return False
    if not isinstance(pairs, list) or not all([is_paired(pair, ones, twos) for pair in pairs]):
        return False
    # Each index is one of a case, so none is left out if they are as many as the cases and differ.
    return (
        len(pairs) == len(ones) == len(twos)
        and len(set([pair[0] for pair in pairs])) == len(ones)
        and len(set([pair[1] for pair in pairs])) == len(twos)
    )


def is_paired(thing, ones, twos):
    """Return whether any object pairs a case with another one, and its rows with those to which they lead."""
    if not isinstance(thing, tuple) or len(thing) != 3:
        return False
    if not is_index(thing[0], len(ones)) or not is_index(thing[1], len(twos)):
        return False
    case, other = ones[thing[0]], twos[thing[1]]
    if not are_indexes(thing[2], len(case[1]), len(other[1])) or len(case[1]) != len(other[1]):
        return False
    known = CaseMap()
    if len(set(thing[2])) != len(other[1]) or not known.maps_all(case[0], other[0]):
        return False
    for (table, terms), index in zip(case[1], thing[2]):
        if table != other[1][index][0] or not known.maps_all(terms, other[1][index][1]):
            return False
    return True


def is_paper_of_ways(shapes, one, two, thing):
    """Return whether any object is a paper for two plans that are distinct, or made so."""
    if not is_headed(thing, "ways", 5):
        return False
    _, ones, twos, forth, back = thing
    if not are_cases(shapes, one, ones) or not are_cases(shapes, two, twos):
        return False
    return are_ways(shapes, two, ones, forth) and are_ways(shapes, one, twos, back)


def are_ways(shapes, plan, cases, thing):
    """Return whether any object is a list of ways of a plan, one into each of some cases."""
    if not isinstance(thing, list) or len(thing) != len(cases):
        return False
    return all([is_way(shapes, plan, case, way) for case, way in zip(cases, thing)])


def is_way(shapes, plan, case, thing):
    """Return whether any object is a list of rows of a case for which the rows of a plan stand."""
    rows = placed_rows(shapes, plan)
    if not are_indexes(thing, len(rows), len(case[1])):
        return False
    known = PlanMap(plan[3])
    if not known.maps_all(plan[1], case[0]):
        return False
    for (table, places, terms), index in zip(rows, thing):
        other, parts = case[1][index]
        if table != other or not known.maps_all(terms, [parts[place] for place in places]):
            return False
    return True


def are_indexes(thing, size, many):
    """Return whether any object is a list of so many indexes of so many things."""
    return isinstance(thing, list) and len(thing) == size and all([is_index(index, many) for index in thing])


def are_cases(shapes, plan, thing):
    """Return whether any object is the list of the cases of a plan, in any order and numbered in any way."""
    if not isinstance(thing, list) or not all([is_case(shapes, case) for case in thing]):
        return False
    return paired_cases(cases_by(shapes, plan), [in_order(told, rows) for told, rows in thing]) is not None


def is_case(shapes, thing):
    """Return whether any object has the form of a case, with classes numbered from 0 on."""
    if not is_pair(thing) or not isinstance(thing[0], tuple) or not isinstance(thing[1], tuple):
        return False
    if not all([is_case_row(shapes, row) for row in thing[1]]):
        return False
    numbers = sorted(set([number for _, terms in thing[1] for number in classes_in(terms)]))
    return numbers == list(range(len(numbers))) and are_terms(shapes.catalog, thing[0], len(numbers))


def is_case_row(shapes, thing):
    """Return whether any object has the form of a row of a case."""
    if not is_pair(thing) or not shapes.catalog.is_table(thing[0]) or not isinstance(thing[1], tuple):
        return False
    size = len(shapes.shape_of(thing[0]).columns)
    return len(thing[1]) == size and all([is_value(term) or is_number(term) for term in thing[1]])
