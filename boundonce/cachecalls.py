"""Calls of a cache by their names: those that change it, and that a recorder records."""

SIZES = {"enter": 3, "leave": 1, "perform": 2, "begin": 1, "commit": 1, "revert": 1, "ask": 2}


def is_call(word, arguments):
    """Return whether a word names such a call, and any object is a tuple of as many arguments as it takes."""
    return word in SIZES and isinstance(arguments, tuple) and len(arguments) == SIZES[word]


def enter(cache, name, path, role):
    """Call enter."""
    return cache.enter(name, path, role)


def leave(cache, name):
    """Call leave."""
    return cache.leave(name)


def perform(cache, name, deed):
    """Call perform."""
    return cache.perform(name, deed)


def begin(cache, name):
    """Call begin."""
    return cache.begin(name)


def commit(cache, name):
    """Call commit."""
    return cache.commit(name)


def revert(cache, name):
    """Call revert."""
    return cache.revert(name)


def ask(cache, name, statement):
    """Call ask."""
    return cache.ask(name, statement)


CALLS = {
    "enter": enter,
    "leave": leave,
    "perform": perform,
    "begin": begin,
    "commit": commit,
    "revert": revert,
    "ask": ask,
}


def called(cache, word, arguments):
    """Return what a call returns."""
    action = CALLS[word]
    return action(cache, *arguments)
