"""A shell: caches by name, and lines that tell what is done to them and asked of them."""

from boundonce.bindings import binding_of
from boundonce.cachecalls import called
from boundonce.caches import Cache
from boundonce.catalogs import Catalog
from boundonce.deedtexts import write_entry
from boundonce.errors import DuplicateName, UnknownName
from boundonce.leaning import lean_plan
from boundonce.least import fewest_rows
from boundonce.lines import parsed_line
from boundonce.plans import plan_of
from boundonce.watch import watch_of
from boundonce.ways import path_classes


class Shell:
    """Keeps caches by name, and executes lines."""

    def __init__(self):
        self._caches = {}

    def run(self, line):
        """Execute a line, and return a text."""
        word, name, arguments = parsed_line(line)
        if word == "new":
            if name in self._caches:
                raise DuplicateName("a cache has this name")
            self._caches[name] = Cache(Catalog(*arguments))
            return "done"
        if name not in self._caches:
            raise UnknownName("no cache has this name")
        cache = self._caches[name]
        if word not in ASKING:
            called(cache, word, arguments)
            return "done"
        asking = ASKING[word]
        return asking(cache, *arguments)


def run_ask(cache, session, statement):
    """Execute "ask"."""
    before = cache.used_again
    cache.ask(session, statement)
    return "bound" if cache.used_again == before else "kept"


def run_watch(cache, session, statement):
    """Execute "watch"."""
    path, role = cache.path_and_role_of(session)
    watch = watch_of(cache.catalog_for(session), statement, path, role)
    return "; ".join([write_entry(entry) for entry in watch])


def run_alike(cache, session, one, two):
    """Execute "alike"."""
    plans = [plan_for(cache, session, statement) for statement in (one, two)]
    rows = fewest_rows(cache.catalog_for(session), plans[0], plans[1])
    return "alike" if rows is None else f"apart {rows}"


def run_lean(cache, session, statement):
    """Execute "lean"."""
    plan = plan_for(cache, session, statement)
    return str(len(lean_plan(cache.catalog_for(session), plan)[2]))


def run_paths(cache, session, statement):
    """Execute "paths"."""
    role = cache.path_and_role_of(session)[1]
    return str(len(path_classes(cache.catalog_for(session), statement, role)))


def run_count(cache):
    """Execute "count"."""
    return f"{cache.bound_anew} {cache.used_again}"


def plan_for(cache, session, statement):
    """Return the plan of a statement for a session, in the catalog that it sees."""
    path, role = cache.path_and_role_of(session)
    catalog = cache.catalog_for(session)
    return plan_of(catalog, binding_of(catalog, statement, path, role))


ASKING = {
    "ask": run_ask,
    "watch": run_watch,
    "alike": run_alike,
    "lean": run_lean,
    "paths": run_paths,
    "count": run_count,
}
