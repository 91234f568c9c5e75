"""Which function a call means, by the types of what is handed in."""

from boundonce.errors import Ambiguous, Unknown
from boundonce.finding import functions_for


def fits(catalog, number, given):
    """Return whether a function fits if things of these types, None for a value, are handed in."""
    return list_fits(catalog, types_of(catalog, number), given)


def beats(catalog, one, other, given):
    """Return whether one of two functions that fit beats the other one."""
    return list_beats(types_of(catalog, one), types_of(catalog, other), given)


def best_function(catalog, path, schema, name, given):
    """Return the number of the best function of a call."""
    fitting = [
        number
        for number in functions_for(catalog, path, schema, name, len(given))
        if fits(catalog, number, given)
    ]
    if not fitting:
        raise Unknown("no function fits the call")
    for number in fitting:
        if beats_all(catalog, number, fitting, given):
            return number
    raise Ambiguous("none of the functions that fit is the best")


def beats_all(catalog, number, fitting, given):
    """Return whether a function beats all others that fit."""
    return all([other == number or beats(catalog, number, other, given) for other in fitting])


def list_fits(catalog, types, given):
    """Return whether a function with a list of types fits if things of these types are handed in."""
    if len(types) != len(given):
        return False
    for handed, asked in zip(given, types):
        if handed is not None and handed != asked and (handed, asked) not in catalog.casts:
            return False
    return True


def list_beats(types, others, given):
    """Return whether a function with a list of types beats one with another list, if both fit."""
    fewer = False
    for handed, asked, other in zip(given, types, others):
        casts = handed is not None and handed != asked
        other_casts = handed is not None and handed != other
        if casts and not other_casts:
            return False
        if other_casts and not casts:
            fewer = True
    return fewer


def types_of(catalog, number):
    """Return the list of types of a function."""
    return catalog.thing_of(number)[3]
