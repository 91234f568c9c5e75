"""Data of a catalog, and the answers of plans on them."""

from boundonce.forms import are_different, is_number, is_tuple_of
from boundonce.names import is_value
from boundonce.running import counted_ways, picked
from boundonce.shapes import Shapes
from boundonce.terms import classes_in


def is_data(catalog, thing):
    """Return whether any object is data of a catalog."""
    if not isinstance(thing, dict) or not all([is_number(key) for key in thing]):
        return False
    if sorted(thing) != catalog.all_tables():
        return False
    shapes = Shapes(catalog)
    if not all([are_rows(thing[table], len(shapes.shape_of(table).columns)) for table in thing]):
        return False
    return all([keeps_facts(shapes, thing, table) for table in thing])


def are_rows(thing, size):
    """Return whether any object is a list of rows of so many values."""
    return isinstance(thing, list) and all([is_tuple_of(row, size, size, is_value) for row in thing])


def keeps_facts(shapes, data, table):
    """Return whether the rows of a table keep its facts."""
    shape = shapes.shape_of(table)
    rows = data[table]
    for places in shape.unique:
        if not are_different([picked(row, places) for row in rows]):
            return False
    for place, values in shape.limits:
        if not all([row[place] in values for row in rows]):
            return False
    for here, other, columns in shape.references:
        places = shapes.shape_of(other).places_of(columns)
        there = {picked(row, places): True for row in data[other]}
        if not all([picked(row, here) in there for row in rows]):
            return False
    return True


def answers_to(catalog, plan, data, *, flat=False):
    """Return the answers of a plan in the plain meaning, or in the flat one."""
    distinct, told, _, _ = plan
    kept = []
    for number in classes_in([term for term in told if not flat or not isinstance(term, tuple)]):
        if number not in kept:
            kept.append(number)
    answers = {}
    ways = counted_ways(Shapes(catalog), plan, data, kept)
    for values in ways:
        worth = dict(zip(kept, values))
        row = tuple([told_worth(term, worth, flat) for term in told])
        answers[row] = 1 if distinct else ways[values]
    return answers


def told_worth(term, worth, flat):
    """Return what is told of a term when classes stand for values."""
    if isinstance(term, str):
        return term
    if not isinstance(term, tuple):
        return worth[term]
    if flat:
        return ("call",)
    return ("call", term[1], tuple([told_worth(part, worth, False) for part in term[2]]))
