import unittest

from helper import FAR, assert_refused
from volumehall.bench import Bench

NO_NUMBERS = (True, False)
BAD_DISKS = (-1, 2, 3, 6, FAR, -FAR, *NO_NUMBERS)


def held(bench):
    """What all blocks of all disks hold, None for a disk that isn't there."""
    return [
        None if pieces is None else
        [[bench.get(disk, piece, block) for block in range(4)] for piece in range(pieces)]
        for disk, pieces in enumerate(bench.sizes())
    ]


def state(bench):
    """All that a bench that isn't stopped tells."""
    sizes = bench.sizes()
    sheets = [None if pieces is None else bench.sheet(disk) for disk, pieces in enumerate(sizes)]
    return (sizes, held(bench), sheets, bench.deeds())


class Sizes(unittest.TestCase):
    def test_sizes_are_told_as_they_were_handed_in(self):
        for sizes in ([3], [1], [12], [1, 12], [12, 1, 2, 5, 9, 1], [12] * 6, list(range(1, 7)), list(range(7, 13))):
            with self.subTest(sizes=sizes):
                self.assertEqual(sizes, Bench(sizes).sizes())

    def test_none_and_seven_disks(self):
        assert_refused(self, "BadSizes", Bench, [])
        assert_refused(self, "BadSizes", Bench, [1] * 7)
        assert_refused(self, "BadSizes", Bench, [12] * 40)

    def test_a_disk_of_a_wrong_size_at_any_place(self):
        for wrong in (0, 13, -1, FAR, -FAR, True, False):
            for place in range(6):
                sizes = [3] * 6
                sizes[place] = wrong
                with self.subTest(wrong=wrong, place=place):
                    assert_refused(self, "BadSizes", Bench, sizes)
            assert_refused(self, "BadSizes", Bench, [wrong])

    def test_the_list_is_not_changed(self):
        sizes = [2, 3]
        bench = Bench(sizes)
        bench.put(0, 1, 2, 3)
        bench.lose(1)
        bench.bring(1, 7)
        self.assertEqual([2, 3], sizes)

    def test_the_list_may_be_changed_afterwards(self):
        sizes = [2, 3]
        bench = Bench(sizes)
        sizes[0] = 9
        sizes.append(4)
        self.assertEqual([2, 3], bench.sizes())
        assert_refused(self, "NoDisk", bench.get, 2, 0, 0)
        assert_refused(self, "NoBlock", bench.get, 0, 2, 0)

    def test_what_sizes_tells_may_be_changed(self):
        bench = Bench([2, 3])
        told = bench.sizes()
        self.assertIsInstance(told, list)
        told[0] = None
        told.append(5)
        self.assertEqual([2, 3], bench.sizes())
        self.assertEqual(0, bench.get(0, 1, 3))
        assert_refused(self, "NoDisk", bench.get, 2, 0, 0)

    def test_none_for_a_disk_that_went(self):
        bench = Bench([2, 3, 4])
        bench.lose(1)
        self.assertEqual([2, None, 4], bench.sizes())
        bench.lose(0)
        bench.lose(2)
        self.assertEqual([None, None, None], bench.sizes())

    def test_benches_are_apart(self):
        one, other = Bench([2, 2]), Bench([2, 2])
        one.put(0, 0, 0, 5)
        one.lay(0, (1,))
        one.lose(1)
        one.arm(0)
        assert_refused(self, "Stopped", one.put, 0, 0, 0, 1)
        self.assertEqual(([2, 2], [[[0] * 4] * 2] * 2, [None, None], 0), state(other))


class Blocks(unittest.TestCase):
    def test_all_disks_are_there_and_hold_0_at_first(self):
        bench = Bench([1, 12, 5, 2, 3, 4])
        for disk, pieces in enumerate([1, 12, 5, 2, 3, 4]):
            for piece in range(pieces):
                for block in range(4):
                    self.assertEqual(0, bench.get(disk, piece, block))

    def test_each_block_is_one_of_its_own(self):
        bench = Bench([3, 12, 2])
        numbers = {}
        for disk, pieces in enumerate([3, 12, 2]):
            for piece in range(pieces):
                for block in range(4):
                    numbers[disk, piece, block] = 1 + disk * 100 + piece * 5 + block
        for (disk, piece, block), number in numbers.items():
            self.assertIsNone(bench.put(disk, piece, block, number))
        for (disk, piece, block), number in numbers.items():
            self.assertEqual(number, bench.get(disk, piece, block))

    def test_the_last_number_is_told_again_and_again(self):
        bench = Bench([1])
        for number in (0, 999, 1, 998, 998, 0, 7):
            bench.put(0, 0, 3, number)
            self.assertEqual([number] * 3, [bench.get(0, 0, 3) for _ in range(3)])

    def test_get_refuses_a_disk_that_is_not_there(self):
        bench = Bench([2, 2])
        for disk in BAD_DISKS:
            assert_refused(self, "NoDisk", bench.get, disk, 0, 0)
        bench.lose(1)
        assert_refused(self, "NoDisk", bench.get, 1, 0, 0)
        self.assertEqual(0, bench.get(0, 0, 0))

    def test_get_refuses_a_block_that_there_is_not(self):
        bench = Bench([2, 12])
        for piece in (-1, 2, 3, 11, 12, FAR, -FAR, *NO_NUMBERS):
            assert_refused(self, "NoBlock", bench.get, 0, piece, 0)
        assert_refused(self, "NoBlock", bench.get, 1, 12, 0)
        for block in (-1, 4, 5, 8, FAR, -FAR, *NO_NUMBERS):
            assert_refused(self, "NoBlock", bench.get, 0, 0, block)
        self.assertEqual(0, bench.get(1, 11, 3))

    def test_put_refuses_what_get_refuses(self):
        bench = Bench([2, 2])
        bench.put(0, 1, 3, 5)
        bench.lose(1)
        ahead = state(bench)
        for disk in (*BAD_DISKS, 1):
            if disk is not False:
                assert_refused(self, "NoDisk", bench.put, disk, 0, 0, 1)
        assert_refused(self, "NoDisk", bench.put, False, 0, 0, 1)
        for piece in (-1, 2, FAR, -FAR, *NO_NUMBERS):
            assert_refused(self, "NoBlock", bench.put, 0, piece, 0, 1)
        for block in (-1, 4, FAR, -FAR, *NO_NUMBERS):
            assert_refused(self, "NoBlock", bench.put, 0, 0, block, 1)
        self.assertEqual(ahead, state(bench))

    def test_put_refuses_other_numbers(self):
        bench = Bench([2])
        bench.put(0, 0, 0, 5)
        ahead = state(bench)
        for number in (-1, 1000, FAR, -FAR, *NO_NUMBERS):
            assert_refused(self, "BadNumber", bench.put, 0, 0, 0, number)
        self.assertEqual(ahead, state(bench))

    def test_of_several_wrongs_the_first_one_is_told(self):
        bench = Bench([2, 2])
        bench.lose(0)
        for disk in (0, 2, -1, True):
            assert_refused(self, "NoDisk", bench.get, disk, 9, 9)
            assert_refused(self, "NoDisk", bench.put, disk, 0, 9, 5)
            assert_refused(self, "NoDisk", bench.put, disk, 9, 0, 5)
            assert_refused(self, "NoDisk", bench.put, disk, 0, 0, 1000)
            assert_refused(self, "NoDisk", bench.put, disk, 9, 9, 1000)
        for piece, block in ((2, 0), (0, 4), (2, 4), (-1, 0), (0, True)):
            assert_refused(self, "NoBlock", bench.put, 1, piece, block, 1000)
            assert_refused(self, "NoBlock", bench.put, 1, piece, block, -1)


class Sheets(unittest.TestCase):
    def test_none_at_first(self):
        bench = Bench([2, 3])
        self.assertIsNone(bench.sheet(0))
        self.assertIsNone(bench.sheet(1))

    def test_the_last_one_is_told(self):
        bench = Bench([2, 3])
        for sheet in ((1, (), ()), (), (2, ((0, 2, (((0, 1), (1, 0)), ())),), (1,)), ("a", None, True, (False, 0)), (7,)):
            self.assertIsNone(bench.lay(1, sheet))
            self.assertEqual(repr(sheet), repr(bench.sheet(1)))
            self.assertEqual(repr(sheet), repr(bench.sheet(1)))
            self.assertIsNone(bench.sheet(0))

    def test_a_sheet_lies_beside_the_blocks(self):
        bench = Bench([2])
        bench.put(0, 1, 1, 4)
        bench.lay(0, (5,))
        self.assertEqual([[[0, 0, 0, 0], [0, 4, 0, 0]]], held(bench))
        bench.put(0, 1, 1, 6)
        self.assertEqual((5,), bench.sheet(0))

    def test_what_was_laid_may_be_changed_afterwards(self):
        bench = Bench([2])
        rows = [1, [2]]
        bench.lay(0, (rows, (rows,)))
        rows[1].append(3)
        rows.append(4)
        self.assertEqual(([1, [2]], ([1, [2]],)), bench.sheet(0))

    def test_what_is_told_may_be_changed(self):
        bench = Bench([2])
        bench.lay(0, ([1, [2]], ([3],)))
        told = bench.sheet(0)
        told[0][1].append(9)
        told[0].append(9)
        told[1][0].clear()
        self.assertEqual(([1, [2]], ([3],)), bench.sheet(0))

    def test_a_disk_that_is_not_there(self):
        bench = Bench([2, 2])
        bench.lay(0, (1,))
        ahead = state(bench)
        for disk in BAD_DISKS:
            assert_refused(self, "NoDisk", bench.sheet, disk)
            assert_refused(self, "NoDisk", bench.lay, disk, (2,))
        self.assertEqual(ahead, state(bench))
        bench.lose(0)
        assert_refused(self, "NoDisk", bench.sheet, 0)
        assert_refused(self, "NoDisk", bench.lay, 0, (2,))
        self.assertIsNone(bench.sheet(1))


class Disks(unittest.TestCase):
    def test_a_disk_goes_with_all_it_held(self):
        bench = Bench([2, 3])
        for disk in (0, 1):
            bench.put(disk, 1, 3, 5)
            bench.lay(disk, (disk,))
        self.assertIsNone(bench.lose(0))
        assert_refused(self, "NoDisk", bench.get, 0, 1, 3)
        self.assertEqual((5, (1,)), (bench.get(1, 1, 3), bench.sheet(1)))
        self.assertIsNone(bench.bring(0, 2))
        self.assertEqual(([2, 3], [0] * 8), (bench.sizes(), sum(held(bench)[0], [])))
        self.assertIsNone(bench.sheet(0))
        self.assertEqual((5, (1,)), (bench.get(1, 1, 3), bench.sheet(1)))

    def test_lose_refuses_a_disk_that_is_not_there(self):
        bench = Bench([2, 2])
        ahead = state(bench)
        for disk in BAD_DISKS:
            assert_refused(self, "NoDisk", bench.lose, disk)
        self.assertEqual(ahead, state(bench))
        bench.lose(0)
        assert_refused(self, "NoDisk", bench.lose, 0)
        self.assertEqual([None, 2], bench.sizes())

    def test_one_of_another_size_comes(self):
        bench = Bench([2, 5])
        for pieces in (1, 12, 5, 4):
            bench.lose(1)
            bench.bring(1, pieces)
            self.assertEqual([2, pieces], bench.sizes())
            self.assertEqual([[0] * 4] * pieces, held(bench)[1])
            bench.put(1, pieces - 1, 0, 3)
            assert_refused(self, "NoBlock", bench.get, 1, pieces, 0)

    def test_bring_refuses_another_place(self):
        bench = Bench([2, 2])
        bench.put(1, 1, 1, 6)
        bench.lay(0, (3,))
        ahead = state(bench)
        for place in (0, 1, *BAD_DISKS):
            assert_refused(self, "NoDisk", bench.bring, place, 3)
            assert_refused(self, "NoDisk", bench.bring, place, 0)
            assert_refused(self, "NoDisk", bench.bring, place, True)
        self.assertEqual(ahead, state(bench))
        bench.lose(0)
        bench.bring(0, 3)
        assert_refused(self, "NoDisk", bench.bring, 0, 3)

    def test_truths_are_no_places_that_a_disk_went_from(self):
        bench = Bench([2, 2])
        bench.lose(0)
        bench.lose(1)
        assert_refused(self, "NoDisk", bench.bring, False, 3)
        assert_refused(self, "NoDisk", bench.bring, True, 3)
        assert_refused(self, "NoDisk", bench.bring, -1, 3)
        assert_refused(self, "NoDisk", bench.bring, 2, 3)
        self.assertEqual([None, None], bench.sizes())

    def test_bring_refuses_other_sizes(self):
        bench = Bench([2, 2])
        bench.lose(1)
        for pieces in (0, 13, -1, FAR, -FAR, True, False):
            assert_refused(self, "BadSizes", bench.bring, 1, pieces)
        self.assertEqual([2, None], bench.sizes())


class Deeds(unittest.TestCase):
    def test_put_and_lay_are_deeds(self):
        bench = Bench([2, 2])
        self.assertEqual(0, bench.deeds())
        bench.put(0, 0, 0, 5)
        self.assertEqual(1, bench.deeds())
        bench.lay(1, (1,))
        self.assertEqual(2, bench.deeds())
        bench.put(0, 0, 0, 5)
        bench.lay(1, (1,))
        self.assertEqual((4, 4), (bench.deeds(), bench.deeds()))

    def test_nothing_else_is_a_deed(self):
        bench = Bench([2, 2])
        bench.put(0, 0, 0, 5)
        bench.get(0, 0, 0)
        bench.sheet(0)
        bench.sizes()
        bench.lose(0)
        bench.bring(0, 3)
        bench.arm(10)
        bench.again()
        self.assertEqual(1, bench.deeds())

    def test_what_is_refused_is_no_deed(self):
        bench = Bench([2, 2])
        bench.lose(1)
        assert_refused(self, "NoDisk", bench.put, 1, 0, 0, 1)
        assert_refused(self, "NoBlock", bench.put, 0, 2, 0, 1)
        assert_refused(self, "BadNumber", bench.put, 0, 0, 0, 1000)
        assert_refused(self, "NoDisk", bench.lay, 1, (1,))
        bench.arm(0)
        assert_refused(self, "Stopped", bench.put, 0, 0, 0, 1)
        assert_refused(self, "Stopped", bench.lay, 0, (1,))
        self.assertEqual(0, bench.deeds())

    def test_a_disk_that_goes_takes_no_deeds_along(self):
        bench = Bench([2])
        bench.put(0, 0, 0, 1)
        bench.lose(0)
        bench.bring(0, 2)
        bench.put(0, 0, 0, 1)
        self.assertEqual(2, bench.deeds())


class Stops(unittest.TestCase):
    def assert_stopped(self, bench):
        """All that has a disk's number is refused with Stopped ahead of all else."""
        for disk in (0, 1, 2, -1, FAR, True):
            assert_refused(self, "Stopped", bench.get, disk, 0, 0)
            assert_refused(self, "Stopped", bench.get, disk, 99, 99)
            assert_refused(self, "Stopped", bench.put, disk, 0, 0, 1)
            assert_refused(self, "Stopped", bench.put, disk, 99, 99, 1000)
            assert_refused(self, "Stopped", bench.sheet, disk)
            assert_refused(self, "Stopped", bench.lay, disk, (9,))
            assert_refused(self, "Stopped", bench.lose, disk)
            assert_refused(self, "Stopped", bench.bring, disk, 3)
            assert_refused(self, "Stopped", bench.bring, disk, 13)

    def deed(self, bench, at):
        """A deed of one of the two sorts."""
        if at & 1:
            return bench.lay(0, (at,))
        return bench.put(0, at // 4 & 1, at & 3, at)

    def test_so_many_deeds_are_done(self):
        for count in range(12):
            for first in (0, 1):
                bench = Bench([2, 2])
                self.assertIsNone(bench.arm(count))
                for at in range(count):
                    self.deed(bench, at + first)
                self.assertEqual(count, bench.deeds())
                ahead = state(bench)
                assert_refused(self, "Stopped", self.deed, bench, count + first)
                self.assert_stopped(bench)
                self.assertIsNone(bench.again())
                self.assertEqual(ahead, state(bench))

    def test_the_deed_at_which_all_stops_is_not_done(self):
        bench = Bench([2, 2])
        bench.put(0, 0, 0, 1)
        bench.lay(0, (1,))
        for call, *args in ((bench.put, 0, 0, 0, 2), (bench.lay, 0, (2,))):
            bench.arm(0)
            assert_refused(self, "Stopped", call, *args)
            bench.again()
            self.assertEqual((1, (1,), 2), (bench.get(0, 0, 0), bench.sheet(0), bench.deeds()))

    def test_all_goes_on_till_the_next_deed(self):
        bench = Bench([2, 2])
        bench.put(0, 1, 1, 8)
        bench.arm(0)
        self.assertEqual(8, bench.get(0, 1, 1))
        self.assertIsNone(bench.sheet(0))
        bench.lose(1)
        bench.bring(1, 4)
        self.assertEqual([2, 4], bench.sizes())
        assert_refused(self, "Stopped", bench.lay, 1, (1,))
        self.assert_stopped(bench)

    def test_what_is_refused_is_no_deed_to_stop_at(self):
        bench = Bench([2, 2, 2])
        bench.lose(2)
        for count in (0, 2):
            bench.arm(count)
            for _ in range(4):
                assert_refused(self, "NoDisk", bench.put, 2, 0, 0, 1)
                assert_refused(self, "NoDisk", bench.lay, 2, (1,))
                assert_refused(self, "NoBlock", bench.put, 0, 2, 0, 1)
                assert_refused(self, "NoBlock", bench.put, 0, 0, 4, 1)
                assert_refused(self, "BadNumber", bench.put, 0, 0, 0, 1000)
            for at in range(count):
                self.deed(bench, at)
            assert_refused(self, "Stopped", self.deed, bench, 1)
            bench.again()

    def test_what_has_no_disks_number_is_not_refused(self):
        bench = Bench([2, 3])
        bench.put(0, 0, 0, 1)
        bench.arm(0)
        assert_refused(self, "Stopped", bench.put, 0, 0, 0, 2)
        self.assertEqual([2, 3], bench.sizes())
        self.assertEqual(1, bench.deeds())
        self.assertIsNone(bench.arm(4))
        assert_refused(self, "BadNumber", bench.arm, -1)
        self.assertIsNone(bench.again())

    def test_stopped_changes_no_more(self):
        bench = Bench([2, 2])
        bench.lose(1)
        bench.put(0, 0, 0, 1)
        ahead = state(bench)
        bench.arm(0)
        assert_refused(self, "Stopped", bench.lay, 0, (1,))
        self.assert_stopped(bench)
        self.assertEqual([2, None], bench.sizes())
        bench.again()
        self.assertEqual(ahead, state(bench))

    def test_to_arm_it_does_not_let_it_go_on(self):
        bench = Bench([2, 2])
        bench.arm(0)
        assert_refused(self, "Stopped", bench.put, 0, 0, 0, 2)
        bench.arm(5)
        self.assert_stopped(bench)
        bench.again()
        for at in range(20):
            self.deed(bench, at)
        self.assertEqual(20, bench.deeds())

    def test_again_sets_no_end(self):
        bench = Bench([2, 2])
        bench.arm(3)
        self.deed(bench, 0)
        bench.again()
        for at in range(20):
            self.deed(bench, at)
        self.assertEqual(21, bench.deeds())
        bench.arm(0)
        assert_refused(self, "Stopped", self.deed, bench, 0)
        bench.again()
        bench.again()
        for at in range(20):
            self.deed(bench, at)
        self.assertEqual(41, bench.deeds())

    def test_again_where_nothing_stopped(self):
        bench = Bench([2, 2])
        self.assertIsNone(bench.again())
        self.deed(bench, 0)
        self.assertEqual(1, bench.deeds())

    def test_the_last_arm_counts_from_then_on(self):
        bench = Bench([2, 2])
        bench.arm(2)
        self.deed(bench, 0)
        bench.arm(3)
        for at in range(3):
            self.deed(bench, at)
        assert_refused(self, "Stopped", self.deed, bench, 0)
        bench.again()
        bench.arm(9)
        bench.arm(0)
        assert_refused(self, "Stopped", self.deed, bench, 0)
        self.assertEqual(4, bench.deeds())

    def test_arm_refuses_other_numbers(self):
        bench = Bench([2, 2])
        bench.arm(1)
        for count in (-1, 10 ** 6 + 1, FAR, -FAR, *NO_NUMBERS):
            assert_refused(self, "BadNumber", bench.arm, count)
        self.deed(bench, 0)
        assert_refused(self, "Stopped", self.deed, bench, 1)

    def test_the_greatest_count(self):
        bench = Bench([1])
        bench.arm(10 ** 6)
        for _ in range(10 ** 6):
            bench.put(0, 0, 0, 1)
        self.assertEqual(10 ** 6, bench.deeds())
        assert_refused(self, "Stopped", bench.put, 0, 0, 0, 1)


if __name__ == "__main__":
    unittest.main()
