"""Whether plans tell rows once, and whether two plans have the same answers on all data."""

from boundonce.chase import add_rows, case_of, cases_by, leaves_of, tableau_of
from boundonce.matching import rows_into
from boundonce.pairing import paired_cases
from boundonce.shapes import Shapes
from boundonce.terms import classes_in


def tells_once(catalog, plan, by=None):
    """Return whether a plan tells no row more than once on all data that keep some facts."""
    return plan[0] or tells_once_by(Shapes(catalog, by), plan)


def alike(catalog, one, two, by=None):
    """Return whether two plans have the same answers on all data that keep some facts."""
    if one == two:
        return True
    shapes = Shapes(catalog, by)
    if not one[0] and not two[0]:
        return paired_cases(cases_by(shapes, one), cases_by(shapes, two)) is not None
    for plan in (one, two):
        if not plan[0] and not tells_once_by(shapes, plan):
            return False
    return tells_only(shapes, one, two) and tells_only(shapes, two, one)


def tells_only(shapes, one, two):
    """Return whether a plan tells only what another one tells, both made distinct."""
    for case in cases_by(shapes, one):
        if rows_into(shapes, two, case) is None:
            return False
    return True


def tells_once_by(shapes, plan):
    """Return whether a plan, as one that is not distinct, tells each row once at most by the facts of shapes."""
    size = len(plan[2])
    tableau = twice(shapes, plan)
    tableau.add_referred()
    waiting = [tableau]
    while waiting:
        one = waiting.pop()
        one.settle()
        # Rows that are one stay so whatever is cut.
        if one.classes.failed or all([one.are_one(row, row + size) for row in range(size)]):
            continue
        parts = one.cut()
        if parts is None:
            return False
        waiting.extend(parts)
    return True


def twice(shapes, plan):
    """Return a tableau with each row of a plan twice, in which what is told outside of calls is equal."""
    tableau, numbers = tableau_of(shapes, plan)
    told = [term for term in plan[1] if not isinstance(term, tuple)]
    shared = classes_in(told)
    twins = []
    for number, values in enumerate(plan[3]):
        twins.append(numbers[number] if number in shared else tableau.classes.new_class(values))
    add_rows(tableau, plan, twins)
    return tableau


def cases_twice(shapes, plan):
    """Return the list of the cases, which tell nothing, of a plan that has each row twice."""
    return [case_of(leaf, (), []) for leaf in leaves_of(twice(shapes, plan))]
