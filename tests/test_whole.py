"""[1] and what the document says over several stages: histories, what plans stand on in them, and what can be checked."""

import random
import unittest

from boundonce.binder import bound_or_none
from boundonce.bindings import binding_of
from boundonce.deeds import after_deed
from boundonce.deedtexts import read_deed, write_deed
from boundonce.kept import word_for
from boundonce.leaning import lean_plan
from boundonce.least import is_parting_data, parting_data
from boundonce.legs import are_ends, are_legs, ends_of, legs_of, one_leg
from boundonce.likeness import alike
from boundonce.papers import is_paper, paper_for
from boundonce.plans import plan_of
from boundonce.watch import holds, watch_of
from tests import model, samples, worlds
from tests.built import raised
from tests.test_caches import make_deed


class HistoriesTest(unittest.TestCase):
    def test_deeds_and_their_texts_do_the_same(self):
        done = set()
        for seed in range(40):
            source = random.Random(seed)
            catalog = worlds.make_catalog(source, 30)
            for _ in range(60):
                deed = source.choice([samples.make_deed(source), worlds.make_deed(source, 0.5)])
                facts = worlds.facts_in(catalog)
                if facts and source.random() < 0.1:
                    deed = worlds.fact_deed(catalog, "drop fact", source.choice(facts))
                again = read_deed(write_deed(deed))
                word = raised(after_deed, catalog, deed)
                self.assertEqual(raised(after_deed, catalog, again), word)
                if word is None:
                    behind = after_deed(catalog, again)
                    self.assertEqual(model.told_by(behind, worlds.ROLES), model.told_by(after_deed(catalog, deed), worlds.ROLES))
                    catalog = behind
                    done.add(deed[0])
        self.assertEqual(len(done), 16)

    def test_what_a_kept_plan_stands_on(self):
        """Its binding is this one just where its watch holds, and where its leg is declared its lean plan has its answers."""
        seen = {}
        for seed in range(80):
            source = random.Random(seed)
            catalog = worlds.make_catalog(source, 45)
            if seed % 2:
                catalog = worlds.open_to(worlds.make_table_catalog(source, 12), "boss")
            for _ in range(3):
                arguments = worlds.make_any(source, catalog)
                if seed % 2:
                    arguments = (worlds.make_plan_statement(source, 3), ("main",), "boss")
                if bound_or_none(catalog, *arguments) is not None:
                    self.check_history(source, catalog, arguments, seen)
        for word in [(True, True), (True, False), (False, True), (False, False), "same", "broken", "refused", "apart", "back"]:
            self.assertGreater(seen.get(word, 0), 8, (word, seen))

    def check_history(self, source, catalog, arguments, seen):
        binding = binding_of(catalog, *arguments)
        plan, watch = plan_of(catalog, binding), watch_of(catalog, *arguments)
        lean = lean_plan(catalog, plan)
        leg = one_leg(catalog, plan, lean)
        behind, begun = catalog, None
        for _ in range(25):
            if source.random() < 0.15 and begun is not None:
                behind, begun = begun.numbered_from(behind.next_number), None
                seen["back"] = seen.get("back", 0) + 1
            elif source.random() < 0.1:
                begun = behind
            facts = worlds.facts_in(behind)
            deed = make_deed(source)
            if facts and source.random() < 0.3:
                deed = worlds.fact_deed(behind, "drop fact", source.choice([pair for pair in leg if pair in facts] or facts))
            behind = worlds.tried(behind, deed)
            stands = all([holds(behind, entry) for entry in watch])
            declared = all([pair in worlds.facts_in(behind) for pair in leg])
            self.assertIs(bound_or_none(behind, *arguments) == binding, stands)
            word = word_for(behind, *arguments, binding, plan)
            self.assertIs(word == "same", stands)
            if stands and declared:
                self.assertIs(alike(behind, plan, lean), True)
            seen[stands, declared] = seen.get((stands, declared), 0) + 1
            seen[word] = seen.get(word, 0) + 1


class ChecksTest(unittest.TestCase):
    def test_each_answer_can_be_checked(self):
        """Two plans have a paper or data on which they part, and never both; so it is with legs and ends."""
        seen = {True: 0, False: 0}
        for seed in range(120):
            source = random.Random(seed)
            catalog = worlds.make_table_catalog(source, 10)
            for _ in range(4):
                one, two = worlds.make_pair(source, catalog)
                two = source.choice([two, lean_plan(catalog, one)])
                paper, data = paper_for(catalog, one, two), parting_data(catalog, one, two)
                same = alike(catalog, one, two)
                seen[same] += one != two
                self.assertEqual([paper is None, data is None], [not same, same])
                self.assertEqual([is_paper(catalog, one, two, paper), is_parting_data(catalog, one, two, data)], [same, not same])
                legs, ends = legs_of(catalog, one, two), ends_of(catalog, one, two)
                self.assertEqual([legs == [], ends == [[]]], [not same, not same])
                self.assertTrue(are_legs(catalog, one, two, legs) and are_ends(catalog, one, two, ends))
                for leg in legs:
                    self.assertIs(alike(catalog, one, two, leg), True)
        self.assertGreater(min(seen.values()), 25, seen)
