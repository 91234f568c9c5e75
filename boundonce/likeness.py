"""Whether plans tell rows once, and whether two plans have the same answers on all data."""

from boundonce.chase import add_rows, cases_by, tableau_of
from boundonce.matching import rows_between, rows_into
from boundonce.shapes import Shapes
from boundonce.terms import classes_in, mapped_terms


def tells_once(catalog, plan, by=None):
    """Return whether a plan tells no row more than once on all data that keep some facts."""
    return plan[0] or tells_once_by(Shapes(catalog, by), plan)


def alike(catalog, one, two, by=None):
    """Return whether two plans have the same answers on all data that keep some facts."""
    shapes = Shapes(catalog, by)
    if not one[0] and not two[0]:
        return are_same_cases(cases_by(shapes, one), cases_by(shapes, two))
    for plan in (one, two):
        if not plan[0] and not tells_once_by(shapes, plan):
            return False
    return tells_only(shapes, one, two) and tells_only(shapes, two, one)


def tells_only(shapes, one, two):
    """Return whether a plan tells only what another one tells, both made distinct."""
    for case in cases_by(shapes, one):
        if rows_into(shapes, two, case) is None:
            return False
    return True


def tells_once_by(shapes, plan):
    """Return whether a plan, as one that is not distinct, tells each row once at most by the facts of shapes."""
    size = len(plan[2])
    tableau = twice(shapes, plan)
    tableau.add_referred()
    waiting = [tableau]
    while waiting:
        one = waiting.pop()
        one.settle()
        # Rows that are one stay so whatever is cut.
        if one.classes.failed or all([one.are_one(row, row + size) for row in range(size)]):
            continue
        parts = one.cut()
        if parts is None:
            return False
        waiting.extend(parts)
    return True


def twice(shapes, plan):
    """Return a tableau with each row of a plan twice, in which what is told outside of calls is equal."""
    tableau, numbers = tableau_of(shapes, plan)
    told = [term for term in plan[1] if not isinstance(term, tuple)]
    shared = classes_in(told)
    twins = []
    for number, values in enumerate(plan[3]):
        twins.append(numbers[number] if number in shared else tableau.classes.new_class(values))
    add_rows(tableau, plan, twins)
    return tableau


def are_same_cases(ones, twos):
    """Return whether two lists have the same cases, each as often."""
    if len(ones) != len(twos):
        return False
    left = {}
    for case in twos:
        left.setdefault(outline(case), []).append(case)
    for case in ones:
        # Being the same leads on from case to case, so it does not matter which one is taken.
        others = left.get(outline(case), [])
        at = first_same(case, others)
        if at is None:
            return False
        left[outline(case)] = others[:at] + others[at + 1:]
    return True


def first_same(case, others):
    """Return the index of the first case that is the same as another one, or None."""
    for at, other in enumerate(others):
        if case == other or rows_between(case, other) is not None:
            return at
    return None


def outline(case):
    """Return a string that is equal for equal cases; cases that differ seldom have the same."""
    told, rows = case
    shown = {number: number for number in classes_in(told)}
    counts = {}
    for _, terms in rows:
        for number in classes_in(terms):
            counts[number] = counts.get(number, 0) + 1
    for number in counts:
        # What is told is numbered alike in equal cases; of the other classes only the sizes are alike.
        shown.setdefault(number, -counts[number])
    return repr(told) + " ".join(sorted([repr((table, mapped_terms(terms, shown))) for table, terms in rows]))
