"""Lean plans: parts of a plan without which it is alike to it, and the plan without such."""

from boundonce.errors import InvalidPart
from boundonce.forms import is_same
from boundonce.likeness import alike
from boundonce.planforms import formed
from boundonce.terms import classes_in


def parts_of(plan):
    """Return the list of the parts of a plan."""
    distinct, told, rows, lists = plan
    parts = [("row", index) for index in range(len(rows)) if can_go(plan, index)]
    parts.extend([("list", number) for number, values in enumerate(lists) if values is not None])
    if distinct:
        parts.append(("distinct",))
    return parts


def can_go(plan, index):
    """Return whether a plan has another row, and each class that is told stands in another row, too."""
    others = plan[2][:index] + plan[2][index + 1:]
    standing = [term for _, columns in others for _, term in columns]
    return len(others) > 0 and all([number in standing for number in classes_in(plan[1])])


def without_part(plan, part):
    """Return a plan without one of its parts."""
    if not any([is_same(part, other) for other in parts_of(plan)]):
        raise InvalidPart("this is no part of the plan")
    distinct, told, rows, lists = plan
    if part[0] == "distinct":
        return (False, told, rows, lists)
    kept = {number: values for number, values in enumerate(lists) if values is not None}
    if part[0] == "list":
        del kept[part[1]]
    else:
        rows = rows[:part[1]] + rows[part[1] + 1:]
    return formed(distinct, told, rows, kept)


def needless_parts(catalog, plan, by=None):
    """Return the list of the parts of a plan without which it is alike to it."""
    return [part for part in parts_of(plan) if alike(catalog, plan, without_part(plan, part), by)]


def lean_plan(catalog, plan):
    """Return a plan without its first needless part, then without the first one of what is left, and so on."""
    part = first_needless(catalog, plan)
    while part is not None:
        plan = without_part(plan, part)
        part = first_needless(catalog, plan)
    return plan


def first_needless(catalog, plan):
    """Return the first needless part of a plan, or None."""
    for part in parts_of(plan):
        if alike(catalog, plan, without_part(plan, part)):
            return part
    return None
