"""The cases of a plan: what facts force of its rows."""

from boundonce.chase import cases_by
from boundonce.shapes import Shapes


def cases_of(catalog, plan, by=None):
    """Return the list of the cases of a plan by some facts, or by all that are declared if by is None."""
    return cases_by(Shapes(catalog, by), plan)
