"""Long plays of a bench beside a simple model of one."""

import random
import unittest

from helper import FAR, told
from volumehall.bench import Bench

WRONG = (-1, 4, 6, 12, 13, 1000, FAR, -FAR, True, False)
WORDS = ("put",) * 9 + ("lay",) * 5 + ("get",) * 3 + ("sheet",) * 2 + ("lose", "bring", "bring", "bring", "sizes", "deeds")
ENDING_WORDS = WORDS + ("arm", "again")


class Refused(Exception):
    """A refusal of the model; its text is the name of the class."""


def number_in(thing, least, most):
    return thing.__class__ is int and thing in range(least, most + 1)


class Model:
    """A bench by the words of the document: what blocks hold by their places, where it isn't 0."""

    def __init__(self, sizes):
        self.counts = dict(enumerate(sizes))
        self.blocks = {}
        self.sheets = {}
        self.done = 0
        self.end = None
        self.still = False

    def refuse_if(self, test, kind):
        if test:
            raise Refused(kind)

    def told(self, word, *args):
        try:
            if word not in ("sizes", "deeds", "arm", "again"):
                self.refuse_if(self.still, "Stopped")
                there = number_in(args[0], 0, 5) and self.counts.get(args[0]) is not None
                self.refuse_if(not there and word != "bring", "NoDisk")
            return ("told", getattr(self, word)(*args))
        except Refused as e:
            return ("refused", str(e))

    def deed(self):
        if self.done == self.end:
            self.still = True
        self.refuse_if(self.still, "Stopped")
        self.done += 1

    def get(self, disk, piece, block):
        there = number_in(piece, 0, self.counts[disk] - 1) and number_in(block, 0, 3)
        self.refuse_if(not there, "NoBlock")
        return self.blocks.get((disk, piece, block), 0)

    def put(self, disk, piece, block, number):
        self.get(disk, piece, block)
        self.refuse_if(not number_in(number, 0, 999), "BadNumber")
        self.deed()
        self.blocks[disk, piece, block] = number

    def sheet(self, disk):
        return self.sheets.get(disk)

    def lay(self, disk, sheet):
        self.deed()
        self.sheets[disk] = sheet

    def lose(self, disk):
        self.counts[disk] = None
        self.sheets[disk] = None
        self.blocks = {place: held for place, held in self.blocks.items() if place[0] != disk}

    def bring(self, disk, pieces):
        free = number_in(disk, 0, len(self.counts) - 1) and self.counts[disk] is None
        self.refuse_if(not free, "NoDisk")
        self.refuse_if(not number_in(pieces, 1, 12), "BadSizes")
        self.counts[disk] = pieces

    def sizes(self):
        return [self.counts[disk] for disk in sorted(self.counts)]

    def deeds(self):
        return self.done

    def arm(self, count):
        self.refuse_if(not number_in(count, 0, 10 ** 6), "BadNumber")
        self.end = self.done + count

    def again(self):
        self.still = False
        self.end = None


def some(chance, below):
    """Mostly a number below the one told, sometimes a wrong one."""
    if chance.random() < 0.06:
        return chance.choice(WRONG)
    return chance.randrange(below)


def some_turn(chance, words):
    word = chance.choice(words)
    if word in ("sizes", "deeds", "again"):
        return (word,)
    if word == "arm":
        return (word, some(chance, 12))
    disk = some(chance, chance.choice((4, 4, 6)))
    if word in ("sheet", "lose"):
        return (word, disk)
    if word == "bring":
        return (word, disk, some(chance, 14))
    if word == "lay":
        return (word, disk, tuple(chance.randrange(9) for _ in range(chance.randrange(3))))
    place = (disk, some(chance, 5), some(chance, 4))
    return (word, *place) if word == "get" else (word, *place, some(chance, 1000))


def some_turns(chance, count, words):
    return [some_turn(chance, words) for _ in range(count)]


class Plays(unittest.TestCase):
    def one_turn(self, bench, model, turn):
        word, *args = turn
        wished = model.told(word, *args)
        self.assertEqual(repr(wished), repr(told(getattr(bench, word), *args)), msg=turn)
        return wished

    def all_alike(self, bench, model):
        """Every block, sheet, size and count is as in the model; where all stands still, so it stays."""
        for turn in (("sizes",), ("deeds",)):
            self.one_turn(bench, model, turn)
        for disk in range(-1, 7):
            self.one_turn(bench, model, ("sheet", disk))
            for piece in range(13):
                for block in range(5):
                    self.one_turn(bench, model, ("get", disk, piece, block))

    def play(self, sizes, turns):
        """Play the turns on a bench and on a model; tell both, and how often which refusal was told."""
        bench, model = Bench(list(sizes)), Model(sizes)
        refused = {}
        for turn in turns:
            how, what = self.one_turn(bench, model, turn)
            if how == "refused":
                refused[what] = refused.get(what, 0) + 1
        return bench, model, refused

    def test_long_plays(self):
        refused = {}
        for seed in range(60):
            chance = random.Random(seed)
            sizes = [chance.randrange(1, 13) for _ in range(1 + seed % 6)]
            bench, model, some_refused = self.play(sizes, some_turns(chance, 400, ENDING_WORDS))
            self.all_alike(bench, model)
            self.one_turn(bench, model, ("again",))
            self.all_alike(bench, model)
            for kind, times in some_refused.items():
                refused[kind] = refused.get(kind, 0) + times
        for kind in ("NoDisk", "NoBlock", "BadNumber", "BadSizes", "Stopped"):
            self.assertGreater(refused[kind], 20)

    def test_all_is_alike_behind_each_turn(self):
        for seed in range(4):
            chance = random.Random(1000 + seed)
            sizes = [chance.randrange(2, 7) for _ in range(4)]
            bench, model = Bench(list(sizes)), Model(sizes)
            for turn in some_turns(chance, 80, ENDING_WORDS):
                self.one_turn(bench, model, turn)
                self.all_alike(bench, model)

    def test_stops_at_every_place(self):
        for seed in range(6):
            chance = random.Random(2000 + seed)
            sizes = [chance.randrange(2, 7) for _ in range(4)]
            turns = some_turns(chance, 120, WORDS)
            _, whole, _ = self.play(sizes, turns)
            self.assertGreater(whole.done, 12)
            for count in range(whole.done + 2):
                bench, model, refused = self.play(sizes, [("arm", count), *turns])
                self.assertEqual(count < whole.done, "Stopped" in refused)
                self.assertEqual(min(count, whole.done), bench.deeds())
                self.one_turn(bench, model, ("again",))
                self.all_alike(bench, model)
                for turn in turns:
                    self.one_turn(bench, model, turn)
                self.all_alike(bench, model)

    def test_armed_at_every_place(self):
        for seed in range(3):
            chance = random.Random(3000 + seed)
            sizes = [chance.randrange(2, 7) for _ in range(4)]
            turns = some_turns(chance, 30, WORDS)
            for place in range(len(turns)):
                for count in range(4):
                    for rest in (1, 4, 9):
                        behind = place + rest
                        armed = [*turns[:place], ("arm", count), *turns[place:behind], ("again",), *turns[behind:]]
                        bench, model, _ = self.play(sizes, armed)
                        self.assertEqual(model.deeds(), bench.deeds())


if __name__ == "__main__":
    unittest.main()
