"""Which function a call means, by the types of what is handed in."""

from boundonce.errors import Ambiguous, Unknown
from boundonce.finding import functions_for


def fits(catalog, number, given):
    """Return whether a function fits if things of these types, None for a value, are handed in."""
    types = types_of(catalog, number)
    if len(types) != len(given):
        return False
    casts = catalog.casts
    return all(
        [handed is None or handed == asked or (handed, asked) in casts for handed, asked in zip(given, types)]
    )


def beats(catalog, one, other, given):
    """Return whether one of two functions that fit beats the other one."""
    ones = places_cast(catalog, one, given)
    others = places_cast(catalog, other, given)
    return all([place in others for place in ones]) and len(ones) < len(others)


def best_function(catalog, path, schema, name, given):
    """Return the number of the best function of a call."""
    fitting = [
        number
        for number in functions_for(catalog, path, schema, name, len(given))
        if fits(catalog, number, given)
    ]
    if not fitting:
        raise Unknown("no function fits the call")
    for number in fitting:
        if beats_all(catalog, number, fitting, given):
            return number
    raise Ambiguous("none of the functions that fit is the best")


def beats_all(catalog, number, fitting, given):
    """Return whether a function beats all others that fit."""
    return all([other == number or beats(catalog, number, other, given) for other in fitting])


def places_cast(catalog, number, given):
    """Return the places at which a function that fits casts what is handed in."""
    types = types_of(catalog, number)
    return [at for at, handed in enumerate(given) if handed is not None and handed != types[at]]


def types_of(catalog, number):
    """Return the list of types of a function."""
    return catalog.thing_of(number)[3]
