"""[4] to [7], [20], [21]: long histories of any deeds, beside a model that does them in another way."""

import random
import unittest

from boundonce import errors
from boundonce.catalogs import Catalog
from boundonce.deeds import after_deed, after_deeds
from tests import model, samples

TYPES = ("text", "word")
KINDS = (
    "table view function drop rename column fact grant revoke rule".split()
    + ["drop function", "rename function", "rename column", "drop column", "drop fact", "drop rule"]
)
TAKEN = ["table", "view", "function", "rename", "rename function", "rename column", "column", "fact", "grant"]
EXPECTED = (
    [(kind, None) for kind in KINDS]
    + [(kind, "Unknown") for kind in KINDS if kind != "view"]
    + [(kind, "Taken") for kind in TAKEN]
    + [("fact", "Unfit"), ("drop column", "Unfit")]
)


BASE = [("table", schema, name, (("x", "text"), ("y", "text"), ("z", "word")))
        for schema in samples.SCHEMAS for name in samples.TABLES]


def next_deed(source, done):
    """Return any deed, often one that takes back or repeats a fact that was declared."""
    facts = [deed for deed in done if deed[0] == "fact"]
    if facts and source.random() < 0.15:
        return (source.choice(["fact", "drop fact", "drop fact"]),) + source.choice(facts)[1:]
    return samples.make_deed(source)


def both(catalog, other, deed):
    """Do a deed to a catalog and to a model; return the catalog and what each refused it with."""
    words = [None, None]
    try:
        catalog = after_deed(catalog, deed)
    except errors.BoundError as error:
        words[0] = type(error).__name__
    try:
        other.do(deed)
    except model.Refused as error:
        words[1] = str(error)
    return catalog, words


LISTS = [(one,) for one in TYPES] + [(one, two) for one in TYPES for two in TYPES]


def told_of_names(catalog):
    """Return what is told of all names: standing_at, function_at and column_of."""
    names = samples.TABLES + samples.COLUMNS
    standing = [catalog.standing_at(schema, name) for schema in samples.SCHEMAS for name in names]
    functions = [catalog.function_at(schema, name, types) for schema in samples.SCHEMAS for name in names for types in LISTS]
    columns = [catalog.column_of(number, name) for number in range(catalog.next_number) for name in names]
    return standing, functions, columns


def looked_up(catalog):
    """Return the same by what the things tell."""
    places, functions, columns = {}, {}, {}
    for number in catalog.all_numbers:
        thing = catalog.thing_of(number)
        if thing[0] == "function":
            functions[thing[1:4]] = number
        elif thing[0] == "column":
            columns[thing[1:3]] = number
        else:
            places[thing[1:3]] = number
    names = samples.TABLES + samples.COLUMNS
    return (
        [places.get((schema, name)) for schema in samples.SCHEMAS for name in names],
        [functions.get((schema, name, types)) for schema in samples.SCHEMAS for name in names for types in LISTS],
        [columns.get((number, name)) for number in range(catalog.next_number) for name in names],
    )


class HistoryTest(unittest.TestCase):
    def test_catalogs_and_models_agree(self):
        counts = {}
        for seed in range(100):
            source = random.Random(seed)
            catalog, other, done = Catalog(TYPES), model.Model(TYPES), []
            for at in range(80):
                deed = BASE[at] if at < len(BASE) else next_deed(source, done)
                catalog, words = both(catalog, other, deed)
                self.assertEqual(words[0], words[1], (seed, deed))
                self.assertEqual(model.told_by(catalog, samples.ROLES), other.told(), (seed, deed))
                counts[deed[0], words[0]] = counts.get((deed[0], words[0]), 0) + 1
                if words[0] is None:
                    done.append(deed)
            self.assertEqual(after_deeds(Catalog(TYPES), done), catalog)
        self.assertEqual(set(counts), set(EXPECTED))

    def test_what_stands_where_is_what_the_things_tell(self):
        for seed in range(20):
            source = random.Random(seed)
            catalog = Catalog(TYPES)
            for _ in range(60):
                catalog, _ = both(catalog, model.Model(TYPES), samples.make_deed(source))
            things = {number: catalog.thing_of(number) for number in catalog.all_numbers}
            for number, thing in things.items():
                if thing[0] == "function":
                    self.assertEqual(catalog.function_at(*thing[1:4]), number)
                elif thing[0] == "column":
                    self.assertEqual(catalog.column_of(thing[1], thing[2]), number)
                else:
                    self.assertEqual(catalog.standing_at(thing[1], thing[2]), number)
            for schema in samples.SCHEMAS:
                for name in samples.TABLES:
                    number = catalog.standing_at(schema, name)
                    self.assertTrue(number is None or things[number][1:3] == (schema, name))

    def test_all_names_are_found_and_no_others_in_elder_catalogs_too(self):
        for seed in range(10):
            source = random.Random(seed)
            catalog = Catalog(TYPES)
            kept = [catalog]
            for _ in range(100):
                catalog, _ = both(catalog, model.Model(TYPES), samples.make_deed(source))
                self.assertEqual(told_of_names(catalog), looked_up(catalog))
                kept.append(catalog)
            # A deed may be done to an elder catalog, too, and changes none of the later ones.
            for elder in kept[::10]:
                both(elder, model.Model(TYPES), samples.make_deed(source))
            for elder in kept:
                self.assertEqual(told_of_names(elder), looked_up(elder))

    def test_no_number_is_given_twice_and_elder_catalogs_stay(self):
        source = random.Random(5)
        catalog, other = Catalog(TYPES), model.Model(TYPES)
        given, kept = {}, []
        for _ in range(300):
            kept.append((catalog, model.told_by(catalog, samples.ROLES)))
            catalog, _ = both(catalog, other, samples.make_deed(source))
            for number in catalog.all_numbers:
                word = catalog.thing_of(number)[0]
                made = (word, number < kept[-1][0].next_number)
                self.assertTrue(number not in given or given[number] == word)
                self.assertTrue(made[1] == (number in given))
            for number in catalog.all_numbers:
                given[number] = catalog.thing_of(number)[0]
            self.assertLess(max(given, default=-1), catalog.next_number)
        for elder, told in kept:
            self.assertEqual(model.told_by(elder, samples.ROLES), told)
