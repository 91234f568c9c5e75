"""The forms of names, statements and deeds told once more, as patterns of how Python shows them.

A tuple, a list, a bool and a string are shown unlike, so a pattern over the
text that repr gives tells the whole form, and little is left to be looked at
besides. Nothing here is taken from the package.
"""

import re

NAME = r"'(?!(?:select|distinct|as|from|where|and|in)')[a-z]{1,8}'"
VALUE = r"'[a-z]{1,8}'"
SCHEMA = f"(?:None|{NAME})"


def row(*parts):
    """Return the pattern of a tuple of just these parts."""
    return r"\(" + ", ".join(parts) + ("," if len(parts) == 1 else "") + r"\)"


def many(part, least, most):
    """Return the pattern of a tuple of so many parts."""
    found = [rf"\({part}(?:, {part}){{{max(least, 2) - 1},{most - 1}}}\)"]
    if least <= 1:
        found.append(rf"\({part},\)")
    if least == 0:
        found.append(r"\(\)")
    return "(?:" + "|".join(found) + ")"


def either(*parts):
    """Return the pattern of one of several."""
    return "(?:" + "|".join(parts) + ")"


def call(term):
    """Return the pattern of a call of terms."""
    return row("'call'", SCHEMA, NAME, many(term, 1, 2))


VALUES = many(VALUE, 1, 8)
COLUMN = row(SCHEMA, NAME)
CALL_ONE = call(either(COLUMN, VALUE))
CALL_TWO = call(either(COLUMN, VALUE, CALL_ONE))
CALL = call(either(COLUMN, VALUE, CALL_TWO, CALL_ONE))
STAR = row("'star'", NAME)
TOLD = either(STAR, row("'column'", COLUMN, NAME), row("'term'", either(VALUE, CALL), NAME))
SOURCE = row(SCHEMA, NAME, NAME)
CONDITION = either(row("'equal'", COLUMN, COLUMN), row("'in'", COLUMN, VALUES))
STATEMENT = row("(?:True|False)", many(TOLD, 1, 8), many(SOURCE, 1, 4), many(CONDITION, 0, 8))
PATH = many(NAME, 0, 6)

BARE_ONE = call(COLUMN)
BARE_TWO = call(either(COLUMN, BARE_ONE))
BARE_CALL = call(either(COLUMN, BARE_TWO, BARE_ONE))
VIEW_TOLD = either(row("'column'", COLUMN, NAME), row("'term'", BARE_CALL, NAME))
VIEW = row("False", many(VIEW_TOLD, 1, 8), many(SOURCE, 1, 4), many(CONDITION, 0, 8))

NAMES = many(NAME, 1, 3)
TYPES = many(NAME, 1, 2)
REF = either(*[row("'ref'", many(NAME, n, n), NAME, NAME, many(NAME, n, n)) for n in (2, 3)])
REF_ONE = row("'ref'", row(NAME), NAME, NAME, row(NAME))
FACT = either(row("'key'", NAMES), row("'in'", NAME, VALUES), REF, REF_ONE)
PLACE = (NAME, NAME)
DEED = either(
    row("'table'", *PLACE, many(row(NAME, NAME), 1, 8)),
    row("'view'", *PLACE, VIEW, PATH),
    row("'function'", *PLACE, TYPES, NAME),
    row("'drop'", *PLACE),
    row("'drop function'", *PLACE, TYPES),
    row("'rename'", *PLACE, NAME),
    row("'rename function'", *PLACE, TYPES, NAME),
    row("'rename column'", *PLACE, NAME, NAME),
    row("'column'", *PLACE, NAME, NAME),
    row("'drop column'", *PLACE, NAME),
    row("'fact'", *PLACE, FACT),
    row("'drop fact'", *PLACE, FACT),
    row("'(?:grant|revoke|drop rule)'", NAME, *PLACE),
    row("'rule'", NAME, *PLACE, NAME, VALUES),
)

PATTERNS = {word: re.compile(pattern) for word, pattern in
            [("name", NAME), ("value", VALUE), ("values", VALUES), ("path", PATH), ("statement", STATEMENT),
             ("view", VIEW), ("deed", DEED)]}


def matches(word, thing):
    """Return whether a thing is shown as the pattern of a word says."""
    return isinstance(thing, (str, tuple)) and PATTERNS[word].fullmatch(repr(thing)) is not None


def ascends(values):
    return all(one < two for one, two in zip(values, values[1:]))


def differ(things):
    return all(one != two for at, one in enumerate(things) for two in things[:at])


def values_fit(thing):
    return matches("values", thing) and ascends(thing)


def path_fits(thing):
    return matches("path", thing) and differ(thing)


def rest_fits(statement):
    """Return what a pattern does not see of a statement."""
    labels = [source[2] for source in statement[2]]
    return differ(labels) and all(part[0] == "equal" or ascends(part[2]) for part in statement[3])


def statement_fits(thing):
    return matches("statement", thing) and rest_fits(thing)


def view_fits(thing):
    return matches("view", thing) and rest_fits(thing) and differ([item[2] for item in thing[1]])


def deed_fits(thing):
    if not matches("deed", thing):
        return False
    if thing[0] == "table":
        return differ([pair[0] for pair in thing[3]])
    if thing[0] == "view":
        return rest_fits(thing[3]) and differ([item[2] for item in thing[3][1]]) and differ(thing[4])
    if thing[0] == "rule":
        return ascends(thing[5])
    if thing[0] in ("fact", "drop fact"):
        fact = thing[3]
        return ascends(fact[2]) if fact[0] == "in" else differ(fact[-1])
    return True
