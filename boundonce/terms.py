"""What plans and cases tell: classes, which are integers, values, and calls of terms."""


def mapped_term(term, change):
    """Return a term with each class exchanged for what a dict has for it."""
    if isinstance(term, str):
        return term
    if isinstance(term, tuple):
        return ("call", term[1], mapped_terms(term[2], change))
    return change[term]


def mapped_terms(terms, change):
    """Return a tuple of terms with each class exchanged for what a dict has for it."""
    return tuple([mapped_term(term, change) for term in terms])


def classes_in(terms):
    """Return the list of the classes in terms, also within calls, as they stand from left to right."""
    found = []
    for term in terms:
        if isinstance(term, tuple):
            found.extend(classes_in(term[2]))
        elif not isinstance(term, str):
            found.append(term)
    return found


def in_order(told, rows):
    """Return a case with classes numbered from 0 on as they stand in what is told, then in rows."""
    order = {}
    for number in classes_in(told) + [number for _, terms in rows for number in classes_in(terms)]:
        order.setdefault(number, len(order))
    return (mapped_terms(told, order), tuple([(table, mapped_terms(terms, order)) for table, terms in rows]))


def functions_in(terms):
    """Return the list of the functions that are called in terms, also within calls."""
    found = []
    for term in terms:
        if isinstance(term, tuple):
            found.append(term[1])
            found.extend(functions_in(term[2]))
    return found
