"""What plans and cases tell: classes, which are integers, values, and calls of terms."""


def mapped_term(term, change):
    """Return a term with each class exchanged for what a dict has for it."""
    if isinstance(term, str):
        return term
    if isinstance(term, tuple):
        return ("call", term[1], mapped_terms(term[2], change))
    return change[term]


def mapped_terms(terms, change):
    """Return a tuple of terms with each class exchanged for what a dict has for it."""
    return tuple([mapped_term(term, change) for term in terms])


def classes_in(terms):
    """Return the list of the classes in terms, also within calls, as they stand from left to right."""
    found = []
    for term in terms:
        if isinstance(term, tuple):
            found.extend(classes_in(term[2]))
        elif not isinstance(term, str):
            found.append(term)
    return found
