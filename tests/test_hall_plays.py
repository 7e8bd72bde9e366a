"""Long plays of a hall beside a simple model of one."""

import random
import unittest

from hallmodel import Model
from hallplays import BENCH_WORDS, Driver, assert_alike, some_sizes, some_step
from volumehall.plays import Play


class Plays(unittest.TestCase):
    def test_long_plays_with_a_look_at_the_bench(self):
        seen = {}
        for seed in range(120):
            chance = random.Random(seed)
            sizes = some_sizes(chance)
            driver, model = Driver(sizes), Model(sizes)
            for turn in range(250):
                step = some_step(chance)
                deeds = driver.bench.deeds()
                sheet = driver.newest()
                wished = model.do(step)
                told = driver.do(step)
                self.assertEqual(repr(wished), repr(told), msg=(seed, turn, step))
                if isinstance(told, str):
                    seen[told] = seen.get(told, 0) + 1
                if step[0] not in BENCH_WORDS and told != "BadVolume":
                    assert_alike(self, driver, model, (seed, turn, step))
                if told == "BadVolume" and step[0] != "grow":
                    self.assertEqual((deeds, sheet), (driver.bench.deeds(), driver.newest()))
        for kind in ("BadVolume", "NoVolume", "BadNumber", "Full", "Lost", "NoDisk", "BadSizes"):
            self.assertGreater(seen.get(kind, 0), 20, msg=kind)

    def test_long_plays_of_a_play(self):
        for seed in range(60):
            chance = random.Random(5000 + seed)
            sizes = some_sizes(chance, 2, 8)
            play, model = Play(list(sizes)), Model(sizes)
            for turn in range(250):
                if chance.random() < 0.02:
                    self.assertIsNone(play.do(("again",)))
                    model.again()
                step = some_step(chance)
                self.assertEqual(repr(model.do(step)), repr(play.do(step)), msg=(seed, turn, step))

    def test_all_asked_again_is_the_same(self):
        for seed in range(10):
            chance = random.Random(7000 + seed)
            sizes = some_sizes(chance, 2, 8)
            driver = Driver(sizes)
            for _ in range(150):
                driver.do(some_step(chance))
                asked = [("room", k) for k in (1, 2, 3)] + [("places", k) for k in range(4)]
                asked += [("read", k, block) for k in range(4) for block in (0, 3, 9)]
                asked += [(word,) for word in ("lacks", "lost", "volumes", "copying")]
                told = [repr(driver.do(step)) for step in asked]
                deeds = driver.bench.deeds()
                self.assertEqual(told, [repr(driver.do(step)) for step in asked])
                self.assertEqual(deeds, driver.bench.deeds())


if __name__ == "__main__":
    unittest.main()
