import random
import unittest

from hallmodel import HALL_WORDS
from helper import FAR, assert_refused
from volumehall.bench import Bench
from volumehall.errors import BadText
from volumehall.hall import Hall
from volumehall.plays import Play, played, read, written

COUNTS = {
    "make": 3, "grow": 2, "drop": 1, "mirror": 2, "leave": 1, "stay": 1, "read": 2, "write": 3, "step": 0, "room": 1,
    "lacks": 0, "lost": 0, "volumes": 0, "places": 1, "copying": 0, "lose": 1, "bring": 2, "arm": 1, "again": 0,
}
STEPS = [
    ("make", 3, 2, 2), ("write", 3, 5, 77), ("read", 3, 5), ("places", 3), ("volumes",), ("room", 1), ("grow", 3, 1),
    ("leave", 0), ("lacks",), ("step",), ("copying",), ("stay", 0), ("copying",), ("mirror", 3, 1), ("lose", 1),
    ("lost",), ("read", 3, 4), ("bring", 1, 12), ("arm", 0), ("leave", 2), ("volumes",), ("again",), ("volumes",),
    ("drop", 3), ("volumes",), ("drop", 3), ("drop", 10), ("write", 3, 0, 0), ("leave", 6), ("bring", 0, 3),
]
TOLD = [
    None, None, 77, [[(0, 0), (1, 0)], [(2, 0), (0, 1)]], [(3, 2, 2)], 8, None,
    None, (0, 2), (3, 0, 2, 1), (3, 0, (2, 2), (0, 0), 1), None, None, None, None,
    [(3, 2)], 0, None, None, "Stopped", "Stopped", None, [(3, 3, 1)],
    None, [], "NoVolume", "BadVolume", "NoVolume", "NoDisk", "NoDisk",
]


class Plays(unittest.TestCase):
    def test_what_steps_tell(self):
        told, play = played([4, 4, 4], list(STEPS))
        self.assertEqual(repr(TOLD), repr(told))
        self.assertIsInstance(told, list)
        self.assertIsInstance(play, Play)
        self.assertEqual([], play.do(("volumes",)))

    def test_do_tells_the_same(self):
        play = Play([4, 4, 4])
        self.assertEqual(repr(TOLD), repr([play.do(step) for step in STEPS]))

    def test_the_play_goes_on(self):
        for cut in range(len(STEPS) + 1):
            told, play = played([4, 4, 4], STEPS[:cut])
            self.assertEqual(repr(TOLD), repr(told + [play.do(step) for step in STEPS[cut:]]))

    def test_no_steps(self):
        told, play = played([1], [])
        self.assertEqual(([], []), (told, play.do(("volumes",))))

    def test_nothing_handed_in_is_changed_or_kept(self):
        sizes, steps = [4, 4, 4], list(STEPS)
        _, play = played(sizes, steps)
        self.assertEqual(([4, 4, 4], STEPS), (sizes, steps))
        sizes.clear()
        self.assertEqual(4 + 12 + 4, play.do(("room", 1)))

    def test_what_is_told_may_be_changed(self):
        play = Play([4, 4])
        play.do(("make", 0, 1, 2))
        play.do(("volumes",)).clear()
        play.do(("places", 0))[0].clear()
        self.assertEqual([[(0, 0), (1, 0)]], play.do(("places", 0)))

    def test_wrong_sizes(self):
        for sizes in ([], [0], [13], [1] * 7, [True], [FAR], [1, -1]):
            assert_refused(self, "BadSizes", Play, sizes)
            assert_refused(self, "BadSizes", played, sizes, [("step",)])

    def test_each_refusal_by_its_name(self):
        play = Play([2, 2])
        for kind, step in (
            (None, ("make", 0, 1, 1)), ("BadVolume", ("make", 10, 1, 1)), ("BadVolume", ("make", 1, 37, 1)),
            ("BadVolume", ("make", 1, 1, 4)), ("BadVolume", ("room", 0)), ("NoVolume", ("make", 0, 1, 1)),
            ("Full", ("make", 1, 4, 1)), ("BadVolume", ("grow", 0, 36)), ("BadNumber", ("read", 0, 4)),
            ("BadNumber", ("write", 0, 3, 1000)), ("NoDisk", ("leave", 2)), ("NoDisk", ("stay", 0)),
            ("NoDisk", ("lose", 6)), ("NoDisk", ("bring", 0, 2)), (None, ("lose", 0)), ("BadSizes", ("bring", 0, 13)),
            ("BadSizes", ("bring", 0, 0)), ("Lost", ("read", 0, 3)), ("Lost", ("write", 0, 3, 1)),
            ("BadNumber", ("arm", 10 ** 6 + 1)), (None, ("arm", 10 ** 6)), (None, ("arm", 0)),
            ("Stopped", ("make", 1, 0, 1)), ("Stopped", ("lose", 1)), ("Stopped", ("bring", 0, 2)),
            ("Stopped", ("bring", 0, 13)), ("BadVolume", ("drop", 10)), ("BadNumber", ("arm", FAR)), (None, ("arm", 5)),
            ("Stopped", ("lost",)), (None, ("again",)), (None, ("bring", 0, 2)), (None, ("make", 1, 0, 1)),
        ):
            self.assertEqual(kind, play.do(step), msg=step)

    def test_again_where_nothing_stopped(self):
        play = Play([4, 4])
        for step in (("make", 0, 1, 1), ("mirror", 0, 2), ("step",), ("arm", 0), ("again",)):
            play.do(step)
        self.assertIsNone(play.do(("copying",)))
        self.assertEqual([(0, 0, 1, blocks) for blocks in (1, 2, 3, 4)], [play.do(("step",)) for _ in range(4)])

    def test_each_step_is_done_by_bench_and_hall(self):
        for seed in range(20):
            chance = random.Random(seed)
            sizes = [chance.randint(2, 6) for _ in range(3)]
            play, bench = Play(list(sizes)), Bench(sizes)
            hall = Hall(bench)
            for _ in range(120):
                word = chance.choice(sorted(COUNTS) + ["make", "write", "step", "again", "bring"])
                step = (word, *[chance.randrange(4) for _ in range(COUNTS[word])])
                told = play.do(step)
                if word == "again":
                    bench.again()
                    hall = Hall(bench)
                    self.assertIsNone(told)
                    continue
                try:
                    wished = getattr(hall if word in HALL_WORDS else bench, word)(*step[1:])
                except ValueError as e:
                    wished = e.__class__.__name__
                self.assertEqual(repr(wished), repr(told), msg=step)


class Texts(unittest.TestCase):
    def assert_bad(self, row, text):
        with self.assertRaises(BadText, msg=text) as caught:
            read(text)
        self.assertEqual(row, caught.exception.row, msg=text)
        assert_refused(self, "BadText", read, text)

    def some_numbers(self, word, chance):
        return [chance.choice((0, 1, 9, 10, 99, 100, 999, 1000, 9999, chance.randrange(10000))) for _ in range(COUNTS[word])]

    def test_rows(self):
        self.assertEqual("make 3 5 2", written([("make", 3, 5, 2)]))
        self.assertEqual("make 3 5 2\nstep\nagain\narm 9999", written([("make", 3, 5, 2), ("step",), ("again",), ("arm", 9999)]))
        self.assertEqual([("make", 3, 5, 2)], read("make 3 5 2"))
        self.assertEqual([("step",), ("lose", 0), ("step",)], read("step\nlose 0\nstep"))

    def test_no_steps_are_the_empty_text(self):
        self.assertEqual("", written([]))
        self.assertEqual([], read(""))

    def test_each_word_with_its_numbers(self):
        for word, count in COUNTS.items():
            for numbers in ((0, 1, 2), (9999, 1000, 10), (7, 7, 7)):
                row = " ".join([word, *map(str, numbers[:count])])
                self.assertEqual(repr([(word, *numbers[:count])]), repr(read(row)))
                self.assertEqual(row, written([(word, *numbers[:count])]))
            for wrong in range(6):
                if wrong != count:
                    self.assert_bad(0, " ".join([word] + ["1"] * wrong))

    def test_what_is_written_is_read_to_the_same(self):
        for seed in range(200):
            chance = random.Random(seed)
            words = [chance.choice(sorted(COUNTS)) for _ in range(chance.randrange(60))]
            steps = [(word, *self.some_numbers(word, chance)) for word in words]
            kept = list(steps)
            text = written(steps)
            self.assertEqual(repr(steps), repr(read(text)))
            self.assertEqual(kept, steps)
            self.assertEqual(max(0, len(steps) - 1), text.count("\n"))

    def test_the_whole_play_is_written_and_read(self):
        self.assertEqual(repr(STEPS), repr(read(written(STEPS))))
        self.assertEqual(repr(TOLD), repr(played([4, 4, 4], read(written(STEPS)))[0]))

    def test_rows_that_are_none(self):
        for row in (
            "", " ", "stop", "Step", "STEP", " step", "step ", "step 0", "steps", "make", "make 1 2", "make 1 2 3 4",
            "make  1 2 3", "make 1  2 3", "make 1 2 3 ", " make 1 2 3", "make 01 2 3", "make 00 2 3", "make 1 2 0003",
            "make 10000 2 3", "make 1 2 12345", "make -1 2 3", "make +1 2 3", "make a 2 3", "make 1 2 x", "make 1,2,3",
            "make 1.0 2 3", "make 1_0 2 3", "make 1 2 3x", "make 1 2 0x1", "make\t1 2 3", "1 2 3", "0", "drop -0", "drop 1e1",
            "drop", "drop ~", "drop '1'", "sheet 1", "get 1 2 3", "sizes", "do", "deeds", "x" * 1000, "9" * 1000,
            " " * 1000, "drop " + "0" * 995, "drop " + "1" * 995,
        ):
            self.assert_bad(0, row) if row else None
            self.assert_bad(0, row + "\nstep")
            self.assert_bad(1, "step\n" + row)
            self.assert_bad(2, "step\nmake 9999 9999 9999\n" + row + "\nstep\n" + row)

    def test_empty_rows(self):
        self.assert_bad(0, "\n")
        self.assert_bad(0, "\n" * 1000)
        self.assert_bad(0, "\nstep")
        self.assert_bad(1, "step\n")
        self.assert_bad(1, "step\n\nstep")
        self.assert_bad(2, "step\nstep\n")

    def test_the_first_row_that_is_none(self):
        for count in range(0, 150):
            self.assert_bad(count, "step\n" * count + "stop\nstop")

    def test_every_sign_alone_and_behind_a_row(self):
        for code in range(32, 127):
            sign = chr(code)
            self.assert_bad(0, sign)
            self.assert_bad(0, "step" + sign)
            self.assert_bad(0, "drop " + sign + "1") if not sign.isdigit() or sign == "0" else None
            if sign.isdigit():
                self.assertEqual([("drop", int(sign))], read("drop " + sign))
            else:
                self.assert_bad(0, "drop " + sign)

    def test_each_number_of_one_to_four_figures(self):
        for number in range(10000):
            self.assertEqual([("arm", number)], read(f"arm {number}"))
        for length in range(1, 8):
            for number in range(120):
                figures = str(number).rjust(length, "0")
                if len(figures) > len(str(number)):
                    self.assert_bad(0, f"arm {figures}")
        for number in (10000, 10001, 99999, 100000, 10 ** 6, FAR):
            self.assert_bad(0, f"arm {number}")

    def test_texts_of_all_lengths(self):
        for length in range(4, 1001):
            rows = ["step"] * ((length + 1) // 5)
            text = "\n".join(rows)
            rest = length - len(text)
            # Rows of four signs, with the last one made longer.
            last = {0: "step", 1: "again", 2: "drop 1", 3: "drop 10", 4: "drop 100"}[rest]
            rows[-1] = last
            text = "\n".join(rows)
            self.assertEqual(length, len(text))
            steps = read(text)
            self.assertEqual(len(rows), len(steps))
            self.assertEqual(text, written(steps))

    def test_a_row_spoilt_by_one_sign(self):
        chance = random.Random(1)
        signs = [chr(code) for code in range(32, 127) if code != 37] + ["\n"]
        good = written(STEPS)
        spoilt = 0
        for _ in range(4000):
            at = chance.randrange(len(good))
            text = good[:at] + chance.choice(signs) + good[at + chance.randrange(2):]
            try:
                steps = read(text)
            except BadText as e:
                spoilt += 1
                rows = text.split("\n")
                self.assertEqual([], [row for row in rows[:e.row] if read(row) == []])
                self.assert_bad(0, rows[e.row]) if rows[e.row] else None
            else:
                self.assertEqual(text, written(steps))
        self.assertGreater(spoilt, 1000)


if __name__ == "__main__":
    unittest.main()
