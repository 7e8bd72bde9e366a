"""Copies block by block: what is due, where it goes, what is told of it, and how it ends."""

import unittest

from helper import assert_refused
from volumehall.bench import Bench
from volumehall.hall import Hall


def made(*sizes):
    """A bench of these sizes, and a hall of it."""
    bench = Bench(list(sizes))
    return bench, Hall(bench)


def steps(hall, count):
    return [hall.step() for _ in range(count)]


def four(name, piece, disk):
    """What the four steps of a copy tell."""
    return [(name, piece, disk, blocks) for blocks in (1, 2, 3, 4)]


class Due(unittest.TestCase):
    def test_nothing_is_due(self):
        bench, hall = made(4, 4)
        self.assertIsNone(hall.step())
        hall.make(0, 2, 2)
        deeds = bench.deeds()
        self.assertEqual([None] * 5, steps(hall, 5))
        self.assertEqual(deeds, bench.deeds())

    def test_a_copy_more(self):
        bench, hall = made(4, 4)
        hall.make(0, 1, 1)
        for block in range(4):
            hall.write(0, block, 50 + block)
        hall.mirror(0, 2)
        self.assertIsNone(hall.copying())
        for blocks in (1, 2, 3):
            self.assertEqual((0, 0, 1, blocks), hall.step())
            self.assertEqual((0, 0, (1, 0), None, blocks), hall.copying())
            self.assertEqual([[(0, 0)]], hall.places(0))
            self.assertEqual((1, 0), hall.lacks())
        self.assertEqual((0, 0, 1, 4), hall.step())
        self.assertIsNone(hall.copying())
        self.assertEqual([[(0, 0), (1, 0)]], hall.places(0))
        self.assertEqual((0, 0), hall.lacks())
        self.assertEqual([50, 51, 52, 53], [bench.get(1, 0, block) for block in range(4)])
        self.assertIsNone(hall.step())

    def test_a_step_copies_one_block(self):
        bench, hall = made(4, 4)
        hall.make(0, 1, 1)
        for block in range(4):
            hall.write(0, block, 50 + block)
        hall.mirror(0, 2)
        for blocks in (1, 2, 3):
            deeds = bench.deeds()
            hall.step()
            self.assertEqual(deeds + 1, bench.deeds())
            held = [bench.get(1, 0, block) for block in range(4)]
            self.assertEqual([50, 51, 52, 53][:blocks] + [0] * (4 - blocks), held)

    def test_in_the_place_of_the_first_on_a_leaving_disk(self):
        bench, hall = made(4, 4, 5, 4)
        hall.make(0, 1, 3)
        self.assertEqual([[(2, 0), (0, 0), (1, 0)]], hall.places(0))
        hall.write(0, 3, 8)
        hall.leave(1)
        hall.leave(0)
        self.assertEqual((0, 2), hall.lacks())
        self.assertEqual(four(0, 0, 3)[:1], steps(hall, 1))
        self.assertEqual((0, 0, (3, 0), (0, 0), 1), hall.copying())
        self.assertEqual(four(0, 0, 3)[1:], steps(hall, 3))
        self.assertEqual([[(2, 0), (3, 0), (1, 0)]], hall.places(0))
        self.assertEqual(8, bench.get(3, 0, 3))
        # The copy on disk 1 has nowhere to go.
        self.assertIsNone(hall.step())
        self.assertEqual((0, 1), hall.lacks())

    def test_the_first_place_is_taken_over(self):
        _, hall = made(4, 3, 2)
        hall.make(0, 1, 2)
        hall.write(0, 1, 6)
        hall.leave(0)
        self.assertEqual(four(0, 0, 2), steps(hall, 4))
        self.assertEqual([[(2, 0), (1, 0)]], hall.places(0))
        self.assertEqual(6, hall.read(0, 1))

    def test_a_leaving_copy_goes_ahead_of_a_lacking_one(self):
        _, hall = made(4, 3, 3, 3)
        hall.make(0, 1, 2)
        hall.mirror(0, 3)
        hall.leave(1)
        self.assertEqual(four(0, 0, 2), steps(hall, 4))
        self.assertEqual([[(0, 0), (2, 0)]], hall.places(0))
        self.assertEqual(four(0, 0, 3), steps(hall, 4))
        self.assertEqual([[(0, 0), (2, 0), (3, 0)]], hall.places(0))

    def test_by_names_then_pieces(self):
        _, hall = made(12, 12)
        for name in (7, 2, 5):
            hall.make(name, 2, 1)
        for name in (5, 7, 2):
            hall.mirror(name, 2)
        told = steps(hall, 24)
        self.assertEqual([(2, 0), (2, 1), (5, 0), (5, 1), (7, 0), (7, 1)], [row[:2] for row in told[::4]])
        self.assertEqual([1, 2, 3, 4] * 6, [row[3] for row in told])
        self.assertIsNone(hall.step())
        self.assertEqual((0, 0), hall.lacks())

    def test_one_without_room_is_passed_over(self):
        bench, hall = made(1, 1, 2)
        hall.make(0, 1, 2)
        hall.make(1, 1, 1)
        self.assertEqual(([[(2, 0), (0, 0)]], [[(1, 0)]]), (hall.places(0), hall.places(1)))
        hall.mirror(0, 3)
        hall.mirror(1, 2)
        # All that is free is a piece of disk 2, which has one of volume 0.
        self.assertEqual(four(1, 0, 2), steps(hall, 4))
        self.assertIsNone(hall.step())
        self.assertEqual((1, 0), hall.lacks())

    def test_a_piece_without_a_copy_is_passed_over(self):
        bench, hall = made(3, 3, 3)
        hall.make(0, 3, 1)
        hall.mirror(0, 2)
        bench.lose(0)
        told = steps(hall, 8)
        self.assertEqual([(0, 1), (0, 2)], [row[:2] for row in told[::4]])
        self.assertIsNone(hall.step())
        self.assertEqual([(0, 0)], hall.lost())

    def test_the_disk_with_most_free_pieces(self):
        for sizes, goal in (((9, 3, 4, 4), (2, 0)), ((9, 3, 3, 3), (1, 0)), ((9, 3, 3, 5), (3, 0))):
            _, hall = made(*sizes)
            hall.make(0, 1, 1)
            hall.mirror(0, 2)
            hall.step()
            self.assertEqual(goal, hall.copying()[2])

    def test_the_least_free_piece(self):
        _, hall = made(4, 3)
        hall.make(0, 1, 1)
        hall.make(1, 3, 2)
        self.assertEqual([[(0, 1), (1, 0)], [(0, 2), (1, 1)], [(0, 3), (1, 2)]], hall.places(1))
        hall.mirror(1, 1)
        hall.mirror(0, 2)
        hall.step()
        self.assertEqual((1, 0), hall.copying()[2])

    def test_no_goal_on_a_leaving_disk(self):
        _, hall = made(4, 9, 3)
        hall.leave(1)
        hall.make(0, 1, 1)
        hall.mirror(0, 3)
        self.assertEqual(four(0, 0, 2), steps(hall, 4))
        self.assertIsNone(hall.step())
        hall.stay(1)
        self.assertEqual(four(0, 0, 1), steps(hall, 4))
        self.assertIsNone(hall.step())

    def test_a_disk_is_emptied(self):
        bench, hall = made(6, 6, 6, 6)
        hall.make(0, 6, 3)
        for block in range(24):
            hall.write(0, block, 300 + block)
        ahead = hall.places(0)
        hall.leave(2)
        many = hall.lacks()[1]
        self.assertGreater(many, 2)
        self.assertEqual([None], steps(hall, 4 * many + 1)[4 * many:])
        self.assertEqual((0, 0), hall.lacks())
        for before, behind in zip(ahead, hall.places(0)):
            for was, now in zip(before, behind):
                self.assertTrue(was == now if was[0] != 2 else now[0] != 2)
        bench.lose(2)
        self.assertEqual([300 + block for block in range(24)], [hall.read(0, block) for block in range(24)])
        self.assertEqual([], hall.lost())

    def test_a_disk_that_came_anew_is_filled(self):
        bench, hall = made(3, 3)
        hall.make(0, 3, 2)
        hall.write(0, 9, 4)
        bench.lose(0)
        self.assertIsNone(hall.step())
        bench.bring(0, 2)
        self.assertEqual(four(0, 0, 0) + four(0, 1, 0) + [None], steps(hall, 9))
        self.assertEqual((1, 0), hall.lacks())

    def test_a_full_disk(self):
        _, hall = made(1, 1)
        hall.make(0, 2, 1)
        hall.mirror(0, 2)
        self.assertIsNone(hall.step())
        hall.leave(0)
        self.assertIsNone(hall.step())
        self.assertIsNone(hall.copying())


class Writes(unittest.TestCase):
    def test_writes_amid_a_copy(self):
        for blocks in range(5):
            for block in range(4):
                bench, hall = made(4, 4)
                hall.make(0, 1, 1)
                for k in range(4):
                    hall.write(0, k, 50 + k)
                hall.mirror(0, 2)
                steps(hall, blocks)
                hall.write(0, block, 99)
                self.assertEqual(99, hall.read(0, block))
                steps(hall, 4 - blocks)
                bench.lose(0)
                wished = [50, 51, 52, 53]
                wished[block] = 99
                self.assertEqual(wished, [hall.read(0, k) for k in range(4)], msg=(blocks, block))

    def test_a_write_to_another_piece_or_volume(self):
        bench, hall = made(6, 6)
        hall.make(0, 2, 1)
        hall.make(1, 1, 1)
        hall.mirror(0, 2)
        steps(hall, 3)
        goal = hall.copying()[2]
        hall.write(0, 4, 99)
        hall.write(1, 0, 98)
        self.assertEqual(0, bench.get(*goal, 0))

    def test_the_copy_goes_on_from_another_one(self):
        bench, hall = made(5, 4, 3)
        hall.make(0, 1, 2)
        for block in range(4):
            hall.write(0, block, 50 + block)
        hall.mirror(0, 3)
        steps(hall, 2)
        bench.lose(0)
        self.assertEqual((0, 0, (2, 0), None, 2), hall.copying())
        self.assertEqual([(0, 0, 2, 3), (0, 0, 2, 4)], steps(hall, 2))
        self.assertEqual([[(1, 0), (2, 0)]], hall.places(0))
        bench.lose(1)
        self.assertEqual([50, 51, 52, 53], [hall.read(0, block) for block in range(4)])


class Ends(unittest.TestCase):
    def lacking(self):
        """A copy of (0, 0) to disk 2 under way, of a piece that lies on disks 0 and 1, one copy lacking."""
        bench, hall = made(5, 4, 3, 1)
        hall.make(0, 1, 2)
        hall.make(1, 1, 1)
        hall.mirror(0, 3)
        steps(hall, 2)
        self.assertEqual((0, 0, (2, 0), None, 2), hall.copying())
        return bench, hall

    def leaving(self):
        """A copy of (0, 0) to disk 2 under way, which takes over the place on disk 1."""
        bench, hall = made(5, 4, 3, 1)
        hall.make(0, 1, 2)
        hall.make(1, 1, 1)
        hall.leave(1)
        steps(hall, 2)
        self.assertEqual((0, 0, (2, 0), (1, 0), 2), hall.copying())
        return bench, hall

    def test_its_goals_disk_goes(self):
        for scene in (self.lacking, self.leaving):
            bench, hall = scene()
            bench.lose(2)
            self.assertIsNone(hall.copying())
            self.assertEqual((0, 0, 3, 1), hall.step())

    def test_its_goals_disk_came_anew(self):
        for scene in (self.lacking, self.leaving):
            bench, hall = scene()
            bench.lose(2)
            bench.bring(2, 3)
            self.assertIsNone(hall.copying())
            self.assertEqual((0, 0, 2, 1), hall.step())

    def test_its_goals_disk_is_to_be_emptied(self):
        for scene in (self.lacking, self.leaving):
            _, hall = scene()
            hall.leave(2)
            self.assertIsNone(hall.copying())
            self.assertEqual((0, 0, 3, 1), hall.step())

    def test_the_place_that_it_takes_over_is_gone(self):
        bench, hall = self.leaving()
        bench.lose(1)
        self.assertIsNone(hall.copying())
        self.assertEqual((0, 0, 2, 1), hall.step())
        self.assertEqual((0, 0, (2, 0), None, 1), hall.copying())
        bench, hall = self.leaving()
        bench.lose(1)
        bench.bring(1, 1)
        self.assertIsNone(hall.copying())

    def test_the_place_that_it_takes_over_is_to_stay(self):
        _, hall = self.leaving()
        hall.leave(0)
        hall.stay(0)
        self.assertEqual((0, 0, (2, 0), (1, 0), 2), hall.copying())
        hall.stay(1)
        self.assertIsNone(hall.copying())
        self.assertIsNone(hall.step())

    def test_no_other_copy_is_left(self):
        bench, hall = self.lacking()
        bench.lose(0)
        self.assertEqual(2, hall.copying()[4])
        bench.lose(1)
        self.assertIsNone(hall.copying())
        self.assertIsNone(hall.step())
        bench, hall = self.lacking()
        bench.lose(0)
        bench.lose(1)
        self.assertIsNone(hall.step())
        self.assertEqual([(0, 0), (1, 0)], hall.lost())

    def test_its_volume_is_dropped(self):
        _, hall = self.lacking()
        hall.drop(0)
        self.assertIsNone(hall.copying())
        self.assertIsNone(hall.step())
        self.assertEqual([[(0, 1)]], hall.places(1))

    def test_its_volume_is_mirrored(self):
        for copies in (1, 2, 3):
            for scene in (self.lacking, self.leaving):
                _, hall = scene()
                hall.mirror(0, copies)
                self.assertIsNone(hall.copying(), msg=copies)
        _, hall = self.leaving()
        hall.mirror(0, 2)
        self.assertEqual(four(0, 0, 2), steps(hall, 4))

    def test_its_goal_is_free_then(self):
        bench, hall = self.lacking()
        room = hall.room(1)
        hall.mirror(0, 2)
        self.assertEqual(room + 1, hall.room(1))

    def test_all_else_lets_it_go_on(self):
        for scene in (self.lacking, self.leaving):
            bench, hall = scene()
            under = hall.copying()
            hall.make(2, 1, 1)
            hall.grow(0, 1)
            hall.mirror(1, 2)
            hall.write(0, 0, 5)
            hall.leave(0)
            hall.stay(0)
            bench.lose(3)
            hall.room(2)
            bench.bring(3, 12)
            hall.drop(1)
            assert_refused(self, "NoVolume", hall.drop, 1)
            assert_refused(self, "NoDisk", hall.leave, 9)
            assert_refused(self, "BadVolume", hall.mirror, 0, 4)
            assert_refused(self, "NoVolume", hall.mirror, 1, 1)
            self.assertEqual(under, hall.copying())
            self.assertEqual([(0, 0, 2, 3), (0, 0, 2, 4)], steps(hall, 2))

    def test_what_it_takes_over_is_told_as_it_began(self):
        _, hall = self.lacking()
        hall.leave(1)
        self.assertEqual((0, 0, (2, 0), None, 2), hall.copying())
        steps(hall, 2)
        self.assertEqual([(0, 0), (1, 0), (2, 0)], hall.places(0)[0])
        self.assertEqual((0, 0, 3, 1), hall.step())
        self.assertEqual((0, 0, (3, 0), (1, 0), 1), hall.copying())


if __name__ == "__main__":
    unittest.main()
