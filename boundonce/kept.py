"""What became of a binding and its plan that were kept from an earlier catalog."""

from boundonce.binder import bound_or_none
from boundonce.bindings import binding_of, need_forms
from boundonce.deeds import after_deed
from boundonce.forms import is_same
from boundonce.likeness import alike
from boundonce.plans import plan_of
from boundonce.terms import functions_in


def word_for(catalog, statement, path, role, binding, plan):
    """Return the word for a kept binding and its plan."""
    need_forms(statement, path, role)
    if not is_whole(catalog, plan):
        return "broken"
    fresh = bound_or_none(catalog, statement, path, role)
    if fresh is None:
        return "refused"
    if is_same(binding, fresh):
        return "same"
    return "alike" if alike(catalog, plan_of(catalog, fresh), plan) else "apart"


def words_behind(catalog, statement, path, role, deeds):
    """Return the list of the words for the plan of a catalog, at first and behind each of some deeds."""
    binding = binding_of(catalog, statement, path, role)
    plan = plan_of(catalog, binding)
    words = [word_for(catalog, statement, path, role, binding, plan)]
    for deed in deeds:
        catalog = after_deed(catalog, deed)
        words.append(word_for(catalog, statement, path, role, binding, plan))
    return words


def is_whole(catalog, plan):
    """Return whether all tables, columns and functions of a plan are things of the catalog."""
    for table, columns in plan[2]:
        if not catalog.is_table(table):
            return False
        there = catalog.thing_of(table)[3]
        if not all([column in there for column, _ in columns]):
            return False
    return all([catalog.is_function(number) for number in functions_in(plan[1])])
