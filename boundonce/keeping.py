"""Plans that are kept: for what, and what they stand on."""

from boundonce.bindings import binding_of
from boundonce.leaning import lean_plan
from boundonce.legs import one_leg
from boundonce.plans import plan_of
from boundonce.watch import holds, watch_of


class Keeping:
    """The lean plan of a statement for a path and a role, with the watch and the leg on which it stands."""

    def __init__(self, catalog, statement, path, role):
        self.statement = statement
        self.path = path
        self.role = role
        plan = plan_of(catalog, binding_of(catalog, statement, path, role))
        self.entries = watch_of(catalog, statement, path, role)
        self.plan = lean_plan(catalog, plan)
        self.leg = one_leg(catalog, plan, self.plan)

    def is_for(self, statement, path, role):
        """Return whether the plan is kept for these."""
        return self.role == role and self.path == path and self.statement == statement

    def bar_in(self, catalog):
        """Return the first entry that does not hold in a catalog, or fact that is not declared there, or None."""
        for entry in self.entries:
            if not holds(catalog, entry):
                return entry
        for table, fact in self.leg:
            if not catalog.has_fact(table, fact):
                return (table, fact)
        return None
