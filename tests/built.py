"""What the tests of statements, plans and entries share: small catalogs, and which error is raised."""

from boundonce.catalogs import Catalog
from boundonce.deeds import after_deeds
from boundonce.texts import read

TYPES = ("num", "text", "word")
CASTS = [("word", "text"), ("num", "word")]


def catalog_of(*deeds):
    """Return the catalog behind deeds; it has three types, of which word is cast to text and num to word."""
    return after_deeds(Catalog(TYPES, CASTS), list(deeds))


def table(place, columns, *roles):
    """Return deeds that create a table SCHEMA.NAME with columns "NAME TYPE, ..", text where no type is told."""
    schema, name = place.split(".")
    pairs = [(part.split() + ["text"])[:2] for part in columns.split(", ")]
    return [("table", schema, name, tuple([tuple(pair) for pair in pairs]))] + grants(place, *roles)


def view(place, text, path, *roles):
    """Return deeds that create a view SCHEMA.NAME."""
    schema, name = place.split(".")
    return [("view", schema, name, read(text), tuple(path.split()))] + grants(place, *roles)


def function(place, types, result="text"):
    """Return deeds that create a function SCHEMA.NAME of types."""
    schema, name = place.split(".")
    return [("function", schema, name, tuple(types.split()), result)]


def grants(place, *roles):
    """Return deeds that give roles the right on a table or view."""
    schema, name = place.split(".")
    return [("grant", role, schema, name) for role in roles]


def raised(call, *arguments):
    """Return the name of the error that a call raises, or None."""
    try:
        call(*arguments)
    except ValueError as error:
        return type(error).__name__
    return None
