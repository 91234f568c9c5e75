"""Pairs of cases that are the same up to the numbers of their classes and the order of their rows."""

from boundonce.matching import rows_between
from boundonce.terms import classes_in, mapped_terms


def paired_cases(ones, twos):
    """Return a list of tuples (index, index, rows) that pairs two lists of cases, or None.

    The rows of a pair are the indexes of those of the second case to which
    those of the first one lead. Cases are numbered as in_order numbers them.
    """
    if len(ones) != len(twos):
        return None
    left = {}
    for at, case in enumerate(twos):
        left.setdefault(outline(case), []).append(at)
    pairs = []
    for at, case in enumerate(ones):
        # Being the same leads on from case to case, so it does not matter which one is taken.
        others = left.get(outline(case), [])
        found = first_same(case, twos, others)
        if found is None:
            return None
        others.remove(found[0])
        pairs.append((at,) + found)
    return pairs


def first_same(case, twos, others):
    """Return a tuple of the first index of some that is one of the same case, and its rows, or None."""
    for at in others:
        if case == twos[at]:
            return (at, list(range(len(case[1]))))
        rows = rows_between(case, twos[at])
        if rows is not None:
            return (at, rows)
    return None


def outline(case):
    """Return a string that is equal for equal cases; cases that differ seldom have the same."""
    told, rows = case
    shown = {number: number for number in classes_in(told)}
    counts = {}
    for _, terms in rows:
        for number in classes_in(terms):
            counts[number] = counts.get(number, 0) + 1
    for number in counts:
        # What is told is numbered alike in equal cases; of the other classes only the sizes are alike.
        shown.setdefault(number, -counts[number])
    return repr(told) + " ".join(sorted([repr((table, mapped_terms(terms, shown))) for table, terms in rows]))
