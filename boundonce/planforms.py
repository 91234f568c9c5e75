"""The form of plans: which columns they name, and how their classes are numbered."""

from boundonce.terms import classes_in, mapped_terms


def formed(distinct, told, rows, lists):
    """Return a plan in its form.

    Its classes are numbered anyhow, and lists is a dict of those that have one;
    rows are pairs (table, columns) with all columns that may have to be named,
    ascending pairs (column, class).
    """
    told_classes = classes_in(told)
    counts = {}
    for _, columns in rows:
        for _, term in columns:
            counts[term] = counts.get(term, 0) + 1
    named = []
    for table, columns in rows:
        kept = []
        for column, term in columns:
            if isinstance(term, str) or term in told_classes or term in lists or counts[term] > 1:
                kept.append((column, term))
        named.append((table, kept))
    order = {}
    for number in told_classes:
        order.setdefault(number, len(order))
    for _, columns in named:
        for number in classes_in([term for _, term in columns]):
            order.setdefault(number, len(order))
    return (
        distinct,
        mapped_terms(told, order),
        tuple([(table, renumbered(columns, order)) for table, columns in named]),
        tuple([lists.get(number) for number in order]),
    )


def renumbered(columns, order):
    """Return the tuple of the columns of a row with other numbers for their classes."""
    return tuple([(column, term if isinstance(term, str) else order[term]) for column, term in columns])
