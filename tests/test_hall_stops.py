"""Stops at every deed of all that a hall does, and of its making; disks that go and come between."""

import random
import unittest

from hallmodel import Model
from hallplays import Driver, assert_alike, some_sizes, some_step
from helper import assert_refused
from volumehall.errors import Stopped
from volumehall.hall import Hall

BASE = (("make", 1, 3, 2), ("make", 4, 2, 3), ("make", 7, 1, 1), ("make", 9, 0, 2)) + tuple(
    ("write", name, block, 100 * name + block + 1)
    for name, blocks in ((1, 12), (4, 8), (7, 4)) for block in range(blocks)
)
STEP = ("step",)
# What leads to a step, the step, and at how many deeds of it all can stop where there are four disks.
SCENES = {
    "make": ((), ("make", 3, 2, 2), 4),
    "make where others lay": ((("drop", 4),), ("make", 3, 4, 3), 4),
    "make of no pieces": ((), ("make", 3, 0, 3), 4),
    "grow": ((), ("grow", 4, 2), 4),
    "grow where others lay": ((("drop", 1),), ("grow", 4, 3), 4),
    "drop": ((), ("drop", 1), 4),
    "mirror more": ((), ("mirror", 1, 3), 4),
    "mirror fewer": ((), ("mirror", 4, 1), 4),
    "leave": ((), ("leave", 2), 4),
    "stay": ((("leave", 2),), ("stay", 2), 4),
    "write one": ((), ("write", 7, 2, 555), 1),
    "write three": ((), ("write", 4, 7, 555), 3),
    "write amid a copy": ((("leave", 0), STEP, STEP), ("write", 1, 1, 555), 3),
    "write ahead of a copy": ((("leave", 0), STEP, STEP), ("write", 1, 2, 555), 2),
    "first step": ((("leave", 0),), STEP, 1),
    "third step": ((("leave", 0), STEP, STEP), STEP, 1),
    "fourth step": ((("leave", 0), STEP, STEP, STEP), STEP, 5),
    "fourth step of a copy more": ((("mirror", 7, 2), STEP, STEP, STEP), STEP, 5),
    "a disk went": ((("lose", 0),), ("volumes",), 3),
    "a disk went ahead of a step": ((("lose", 0),), STEP, 4),
    "a disk came anew": ((("lose", 0), ("bring", 0, 6)), ("read", 1, 0), 4),
    "a disk came anew ahead of a write": ((("lose", 1), ("bring", 1, 6)), ("write", 4, 0, 555), 6),
    "two disks came anew": ((("lose", 3), ("bring", 3, 6), ("lose", 0), ("bring", 0, 9)), ("make", 3, 1, 1), 8),
    "a disk came anew amid a copy": ((("leave", 0), STEP, STEP, ("lose", 2), ("bring", 2, 6)), STEP, 5),
}
CALLS = (
    ("make", 3, 1, 1), ("grow", 1, 1), ("drop", 1), ("mirror", 1, 3), ("leave", 3), ("stay", 0), ("read", 1, 0),
    ("write", 1, 0, 5), STEP, ("room", 1), ("lacks",), ("lost",), ("volumes",), ("places", 1), ("copying",),
    # What would be refused otherwise.
    ("drop", 8), ("read", 1, 999), ("write", 1, 0, 1000), ("leave", 99), ("stay", True), ("make", 1, 36, 3),
)


class Stops(unittest.TestCase):
    def scene(self, ahead, sizes=(6, 5, 6, 4)):
        """A driver and a model behind some steps."""
        driver, model = Driver(sizes), Model(sizes)
        for step in (*BASE, *ahead):
            self.assertEqual(repr(model.do(step)), repr(driver.do(step)), msg=step)
        return driver, model

    def states(self, model, step):
        """The model as it was, with what went taken out, and behind the step."""
        seen = model.twin()
        seen.see()
        behind = seen.twin()
        behind.do(step)
        return [model.twin(), seen, behind]

    def by_sheet(self, driver, states, msg):
        """The state that the newest sheet tells; a block that was being written has one of two numbers."""
        newest = driver.newest()
        if newest is None:
            # Only disks that came anew are there, and no hall has seen them yet.
            return states[0]
        fitting = [state for state in states if repr(state.sheet()) == repr(newest)]
        self.assertTrue(fitting, msg=(msg, newest))
        return fitting[-1]

    def make_again(self, driver, states, msg, stops=()):
        """Make a hall again, stopped at some deeds of its making ahead of that; tell the model of what it is now."""
        driver.bench.again()
        state = self.by_sheet(driver, states, msg)
        for count in stops:
            driver.bench.arm(count)
            behind = state.twin()
            behind.again()
            try:
                Hall(driver.bench)
                state = behind
                driver.bench.again()
            except Stopped:
                driver.bench.again()
                state = self.by_sheet(driver, [state, behind], msg)
        driver.again()
        state.again()
        self.take_written(driver, state, states, msg)
        assert_alike(self, driver, state, msg)
        self.assert_told_alike(driver, state, msg)
        return state

    def take_written(self, driver, state, states, msg):
        """Each block holds what was written last, one that was being written the elder or the newer number."""
        for (name, piece), places in state.lie.items():
            for block in range(4 * piece, 4 * piece + 4):
                if places:
                    numbers = [other.holds[name, block] for other in states if (name, block) in other.holds]
                    state.holds[name, block] = driver.hall.read(name, block)
                    self.assertIn(state.holds[name, block], numbers, msg=msg)

    def assert_told_alike(self, driver, model, msg):
        asked = [("places", name) for name in range(10)] + [("room", copies) for copies in (1, 2, 3)]
        asked += [(word,) for word in ("volumes", "lacks", "lost", "copying")]
        for step in asked:
            self.assertEqual(repr(model.do(step)), repr(driver.do(step)), msg=(msg, step))

    def assert_of_no_use(self, driver):
        """A hall that was stopped refuses all, and changes nothing."""
        for step in CALLS:
            self.assertEqual("Stopped", driver.do(step), msg=step)
        self.assertEqual("BadVolume", driver.do(("drop", 10)))
        assert_refused(self, "Stopped", Hall, driver.bench)
        self.assert_of_no_use_again(driver)

    def assert_of_no_use_again(self, driver):
        """Nor is it of use when the bench goes on."""
        driver.bench.again()
        held = (driver.bench.deeds(), [driver.bench.sheet(disk) for disk in driver.there()])
        for step in CALLS:
            self.assertEqual("Stopped", driver.do(step), msg=step)
        self.assertEqual(held, (driver.bench.deeds(), [driver.bench.sheet(disk) for disk in driver.there()]))

    def stopped(self, name, count):
        """A scene stopped at a deed of its step: the driver, and the states; None, if it isn't stopped."""
        ahead, step, _ = SCENES[name]
        driver, model = self.scene(ahead)
        states = self.states(model, step)
        driver.bench.arm(count)
        told = driver.do(step)
        if told != "Stopped":
            self.assertEqual(repr(model.do(step)), repr(told), msg=(name, count))
            driver.bench.again()
            assert_alike(self, driver, states[2], (name, count))
            return None
        return driver, states

    def each_stop(self):
        """Each deed of each scene at which all stops."""
        for name in SCENES:
            count = 0
            while self.stopped(name, count) is not None:
                yield name, count
                count += 1

    def go_on(self, driver, model, msg):
        """Both behave alike from now on, too."""
        chance = random.Random(repr(msg))
        for _ in range(12):
            step = some_step(chance)
            self.assertEqual(repr(model.do(step)), repr(driver.do(step)), msg=(msg, step))

    def test_there_are_stops_at_so_many_deeds(self):
        found = {}
        for name, _ in self.each_stop():
            found[name] = found.get(name, 0) + 1
        for name, (_, _, deeds) in SCENES.items():
            # Pieces that others had are made 0 ahead of the map.
            at_least = self.assertGreater if "where others lay" in name else self.assertEqual
            at_least(found[name], deeds, msg=name)

    def test_a_stopped_hall_is_of_no_use(self):
        for name, count in self.each_stop():
            driver, states = self.stopped(name, count)
            self.assert_of_no_use(driver)
            model = self.make_again(driver, states, (name, count))
            self.go_on(driver, model, (name, count))

    def test_disks_that_go_and_come_between(self):
        looked = 0
        for name, count in self.each_stop():
            for disk in range(4):
                for pieces in (None, 1, 6, 12):
                    driver, states = self.stopped(name, count)
                    driver.bench.again()
                    newest = driver.newest()
                    if driver.bench.sizes()[disk] is None:
                        if pieces is None:
                            continue
                        changes = [("bring", disk, pieces)]
                    else:
                        changes = [("lose", disk)] + [("bring", disk, pieces)] * (pieces is not None)
                    for change in changes:
                        self.assertIsNone(driver.do(change))
                        for state in states:
                            self.assertIsNone(state.do(change))
                    if driver.newest() != newest:
                        # Nothing is promised then, but that a hall can be made.
                        driver.again()
                        self.assertIsInstance(driver.hall.volumes(), list)
                        continue
                    looked += 1
                    model = self.make_again(driver, states, (name, count, changes))
                    self.go_on(driver, model, (name, count, changes))
        self.assertGreater(looked, 500)

    def test_a_stopped_hall_that_was_asked_nothing_till_again(self):
        for name, count in self.each_stop():
            driver, states = self.stopped(name, count)
            self.assert_of_no_use_again(driver)
            self.make_again(driver, states, (name, count))

    def test_a_bench_that_was_stopped_by_others(self):
        driver, model = self.scene(())
        driver.bench.arm(0)
        assert_refused(self, "Stopped", driver.bench.put, 0, 0, 0, 1)
        self.assert_of_no_use(driver)
        self.make_again(driver, [model], "by others")

    def change_disks(self, chance, driver, states):
        """Some disks go or come between; whether one with the newest sheet is left."""
        driver.bench.again()
        newest = driver.newest()
        for _ in range(chance.choice((0, 0, 0, 1, 2))):
            change = some_step(chance, ("lose", "bring", "bring", "bring"), 0)
            told = driver.do(change)
            for state in states:
                self.assertEqual(told, state.do(change))
        return driver.newest() == newest

    def test_long_plays_with_stops(self):
        stopped = 0
        for seed in range(300):
            chance = random.Random(9000 + seed)
            sizes = some_sizes(chance, 3, 9)
            driver, model = Driver(sizes), Model(sizes)
            for turn in range(120):
                if chance.random() < 0.2:
                    driver.bench.arm(chance.randrange(12))
                step = some_step(chance)
                states = self.states(model, step)
                told = driver.do(step)
                if told != "Stopped":
                    self.assertEqual(repr(model.do(step)), repr(told), msg=(seed, turn, step))
                    continue
                stopped += 1
                if not self.change_disks(chance, driver, states):
                    break
                stops = [chance.randrange(9) for _ in range(chance.choice((0, 0, 1, 3)))]
                model = self.make_again(driver, states, (seed, turn, step), stops)
        self.assertGreater(stopped, 600)

    def test_the_making_is_stopped_too(self):
        for name, count in self.each_stop():
            for stops in ((0,), (1,), (2,), (3,), (4,), (5,), (0, 0), (1, 1), (2, 1), (3, 0, 2, 1), (6, 5, 4, 3)):
                driver, states = self.stopped(name, count)
                model = self.make_again(driver, states, (name, count, stops), stops)
                self.go_on(driver, model, (name, count, stops))


if __name__ == "__main__":
    unittest.main()
