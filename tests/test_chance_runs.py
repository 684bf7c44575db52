"""[w1] to [w9] over programs and runs that are made by seeds: a client does what its model does."""

import unittest

from clients import Chance, without_values
from pagewake.deeds import run
from pagewake.pages import sight
from pagewake.patches import apply_patch, patch
from pagewake.records import judge, shown_behind
from pagewake.worlds import page_of
from programs import LivelyMaker

SEEDS = 40
STEPS = 60


def run_of(seed):
    maker = LivelyMaker(seed)
    return Chance(maker, maker.program())


class ModelTest(unittest.TestCase):
    def compare(self, client, model):
        self.assertEqual(client.nodes(), model.nodes())
        self.assertEqual(client.sight(), model.sight())
        self.assertEqual(client.deeds, tuple(model.deeds))
        self.assertEqual(client.taken, tuple(model.taken))
        self.assertEqual(client.awake, tuple(model.awake))
        self.assertEqual((client.started, client.whole), (model.started, model.whole()))
        self.assertEqual(client.world, model.world())
        self.assertEqual(client.codes, tuple(model.codes))
        self.assertEqual(client.wants(), model.wants())
        self.assertEqual(client.record, tuple(model.record))

    def test_a_client_does_what_its_model_does(self):
        for seed in range(SEEDS):
            runs = run_of(seed)
            for _ in range(STEPS):
                what, found, expected = runs.step()
                with self.subTest(seed=seed, what=what):
                    self.assertEqual(found, expected)
                    self.compare(runs.client, runs.model)
            _, found, expected = runs.finish()
            self.assertEqual((found, expected), (True, True))
            self.compare(runs.client, runs.model)


class WholeTest(unittest.TestCase):
    """What the overview says: never a mixture, and at rest the page of all deeds."""

    def test_at_rest_it_is_the_page_of_all_deeds(self):
        for seed in range(SEEDS, 3 * SEEDS):
            runs = run_of(seed)
            for _ in range(STEPS):
                runs.step()
            runs.finish()
            client = runs.client
            world = run(runs.program, runs.before, tuple(deed for deed, _ in client.deeds))
            self.assertEqual((client.world, client.taken), (world, tuple(range(len(client.deeds)))))
            self.assertEqual(client.sight(), sight(page_of(runs.program, world)[1]))

    def test_what_is_shown_is_a_page_of_a_plain_run(self):
        for seed in range(SEEDS, 2 * SEEDS):
            runs = run_of(seed)
            for _ in range(STEPS):
                runs.step()
                client = runs.client
                if not client.whole:
                    continue
                deeds = tuple(client.deeds[number][0] for number in client.taken)
                page = page_of(runs.program, run(runs.program, runs.before, deeds))
                self.assertEqual(without_values(client.sight()), without_values(sight(page[1])))

    def test_patches_between_what_is_shown(self):
        for seed in range(SEEDS, 2 * SEEDS):
            runs = run_of(seed)
            shown = [()]
            for _ in range(STEPS):
                runs.step()
                shown.append(runs.client.nodes())
            for many in (1, 5, STEPS):
                for before, after in zip(shown, shown[many:]):
                    self.assertEqual(apply_patch(before, patch(before, after)), after)

    def test_the_judge_takes_the_records_of_clients(self):
        for seed in range(SEEDS, 2 * SEEDS):
            runs = run_of(seed)
            client = runs.client
            for _ in range(STEPS):
                runs.step()
                if client.whole and client.nodes() == runs.model.tree_of_cells():
                    self.assertTrue(judge(runs.program, runs.before, client.deeds, client.record, client.nodes()))
                elif client.whole:
                    self.assertFalse(judge(runs.program, runs.before, client.deeds, client.record, client.nodes()))
            runs.finish()
            self.assertTrue(judge(runs.program, runs.before, client.deeds, client.record, client.nodes()))

    def test_shown_behind_each_commit(self):
        for seed in range(SEEDS, 2 * SEEDS):
            runs = run_of(seed)
            client = runs.client
            seen = {}
            for _ in range(STEPS):
                runs.step()
                if client.whole:
                    seen[len(client.record)] = client.sight()
            for many, one in seen.items():
                found = shown_behind(runs.program, runs.before, client.deeds, client.record, many)
                self.assertEqual(without_values(found), without_values(one))


if __name__ == "__main__":
    unittest.main()
