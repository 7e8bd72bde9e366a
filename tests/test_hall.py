"""What a hall does and tells, point by point, with what is promised written out."""

import unittest

from helper import FAR, assert_refused
from volumehall.bench import Bench
from volumehall.hall import Hall

NO_NUMBERS = (True, False)
NOT_NAMES = (-1, 10, 11, FAR, -FAR, *NO_NUMBERS)
NOT_LENGTHS = (-1, 37, 38, FAR, -FAR, *NO_NUMBERS)
NOT_COPIES = (0, 4, 5, -1, FAR, -FAR, *NO_NUMBERS)


def made(*sizes):
    """A bench of these sizes, and a hall of it."""
    bench = Bench(list(sizes))
    return bench, Hall(bench)


def sheets(bench):
    return [None if size is None else bench.sheet(disk) for disk, size in enumerate(bench.sizes())]


def numbers(bench):
    """The number of the sheet of each disk."""
    return [None if sheet is None else sheet[0] for sheet in sheets(bench)]


def state(bench, hall):
    """All that lies on a bench, and all that the hall tells."""
    sizes = bench.sizes()
    blocks = [
        [[bench.get(disk, piece, block) for block in range(4)] for piece in range(size or 0)]
        for disk, size in enumerate(sizes)
    ]
    lists = [hall.places(name) for name, _, _ in hall.volumes()]
    told = (hall.volumes(), lists, hall.lacks(), hall.lost(), hall.copying(), [hall.room(k) for k in (1, 2, 3)])
    return repr((sizes, blocks, sheets(bench), bench.deeds(), told))


class Case(unittest.TestCase):
    def assert_refused_and_nothing_changed(self, kind, bench, hall, word, *args):
        ahead = state(bench, hall)
        assert_refused(self, kind, getattr(hall, word), *args)
        self.assertEqual(ahead, state(bench, hall), msg=(word, args))


class Made(Case):
    def test_a_hall_of_an_empty_bench(self):
        bench, hall = made(3, 1, 12)
        self.assertEqual([(1, (), ())] * 3, sheets(bench))
        self.assertEqual(3, bench.deeds())
        self.assertEqual(([], (0, 0), [], None), (hall.volumes(), hall.lacks(), hall.lost(), hall.copying()))
        self.assertIsNone(hall.step())

    def test_each_making_lays_the_map_anew(self):
        bench, hall = made(3, 3)
        hall.make(5, 1, 2)
        self.assertEqual([2, 2], numbers(bench))
        for number in (3, 4, 5):
            hall = Hall(bench)
            self.assertEqual([(number, ((5, 2, (((0, 0), (1, 0)),)),), ())] * 2, sheets(bench))

    def test_the_greatest_number_is_taken(self):
        for greatest in (0, 1, 2):
            bench = Bench([3, 3, 3])
            for disk in range(3):
                number = 20 if disk == greatest else 9 + disk
                bench.lay(disk, (number, ((disk, 1, (((disk, 2),),)),), (0,)))
            hall = Hall(bench)
            self.assertEqual([(greatest, 1, 1)], hall.volumes())
            self.assertEqual([[(greatest, 2)]], hall.places(greatest))
            self.assertEqual([(21, ((greatest, 1, (((greatest, 2),),)),), (0,))] * 3, sheets(bench))

    def test_a_sheet_of_number_0_is_taken(self):
        bench = Bench([3])
        bench.lay(0, (0, ((7, 3, ()),), ()))
        self.assertEqual([(7, 0, 3)], Hall(bench).volumes())
        self.assertEqual([(1, ((7, 3, ()),), ())], sheets(bench))

    def test_a_hall_goes_on_beyond_the_last_number(self):
        bench = Bench([3])
        bench.lay(0, (10 ** 6, ((7, 3, ()),), ()))
        self.assertEqual([(7, 0, 3)], Hall(bench).volumes())
        self.assertEqual([(7, 0, 3)], Hall(bench).volumes())

    def test_what_is_no_sheet_of_a_hall_is_passed_over(self):
        for thing in ((), (99,), (99, None, ()), ("a", (), ()), (True, (), ()), (99, ((0, 1, (((0, 5),),)),), ())):
            bench = Bench([3, 3])
            bench.lay(0, thing)
            bench.lay(1, (4, ((7, 3, ()),), ()))
            self.assertEqual([(7, 0, 3)], Hall(bench).volumes())
            self.assertEqual([5, 5], numbers(bench))

    def test_copies_are_made_alike(self):
        bench, hall = made(3, 3, 3)
        hall.make(0, 1, 3)
        hall.make(1, 1, 1)
        for disk in range(3):
            for block in range(4):
                bench.put(disk, 0, block, 10 * disk + block)
        first = hall.places(0)[0][0][0]
        hall = Hall(bench)
        for disk in range(3):
            for block in range(4):
                self.assertEqual(10 * first + block, bench.get(disk, 0, block))
        self.assertEqual([10 * first + block for block in range(4)], [hall.read(0, block) for block in range(4)])

    def test_the_first_place_on_a_disk_that_is_left_counts(self):
        bench, hall = made(3, 3, 3)
        hall.make(0, 1, 3)
        for disk in range(3):
            bench.put(disk, 0, 2, 5 + disk)
        bench.lose(0)
        bench.bring(0, 3)
        hall = Hall(bench)
        self.assertEqual([[(1, 0), (2, 0)]], hall.places(0))
        self.assertEqual((6, 6), (hall.read(0, 2), bench.get(2, 0, 2)))
        self.assertEqual(0, bench.get(0, 0, 2))

    def test_what_went_is_not_in_a_new_hall(self):
        bench, hall = made(4, 4, 4)
        hall.make(0, 2, 2)
        hall.leave(1)
        bench.lose(1)
        hall = Hall(bench)
        self.assertEqual([[(0, 0)], [(2, 0), (0, 1)]], hall.places(0))
        sheet = (4, ((0, 2, (((0, 0),), ((2, 0), (0, 1)))),), ())
        self.assertEqual([sheet, None, sheet], sheets(bench))

    def test_a_copy_under_way_is_not_in_a_new_hall(self):
        bench, hall = made(4, 4)
        hall.make(0, 1, 1)
        hall.mirror(0, 2)
        hall.step()
        hall.step()
        hall = Hall(bench)
        self.assertIsNone(hall.copying())
        self.assertEqual((0, 0, 1, 1), hall.step())

    def test_none_is_left(self):
        bench, hall = made(4, 4)
        hall.make(0, 1, 2)
        bench.lose(0)
        bench.lose(1)
        hall = Hall(bench)
        self.assertEqual([], hall.volumes())
        bench.bring(1, 2)
        self.assertEqual([], Hall(bench).volumes())

    def test_each_change_of_the_map_lays_it(self):
        bench, hall = made(4, 4, 4)
        number = 1
        for step in (
            ("make", 0, 2, 2), ("make", 1, 0, 1), ("grow", 0, 1), ("leave", 0), ("stay", 0), ("mirror", 0, 3),
            ("mirror", 0, 1), ("drop", 1),
        ):
            getattr(hall, step[0])(*step[1:])
            number += 1
            self.assertEqual([number] * 3, numbers(bench), msg=step)
        hall.mirror(0, 2)
        number += 1
        for steps in range(1, 13):
            self.assertIsNotNone(hall.step())
            number += steps % 4 == 0
            self.assertEqual([number] * 3, numbers(bench))

    def test_nothing_else_lays_it(self):
        bench, hall = made(4, 4, 4)
        hall.make(0, 2, 2)
        hall.leave(0)
        for step in (
            ("read", 0, 0), ("write", 0, 0, 5), ("write", 0, 7, 5), ("room", 1), ("lacks",), ("lost",), ("volumes",),
            ("places", 0), ("copying",), ("step",), ("step",), ("step",), ("grow", 0, 0), ("mirror", 0, 2),
        ):
            getattr(hall, step[0])(*step[1:])
            self.assertEqual([3] * 3, numbers(bench), msg=step)

    def test_disks_are_laid_rising(self):
        bench, hall = made(4, 4, 4)
        for count in range(3):
            bench.arm(count)
            assert_refused(self, "Stopped", hall.leave, 1)
            bench.again()
            number = max(numbers(bench))
            self.assertEqual([number] * count + [number - (count > 0)] * (3 - count), numbers(bench))
            hall = Hall(bench)
            if count:
                hall.stay(1)

    def test_halls_on_two_benches(self):
        one, first = made(4, 4)
        other, second = made(4, 4)
        first.make(0, 2, 2)
        first.write(0, 0, 5)
        one.lose(1)
        first.leave(0)
        self.assertEqual(([], [], (0, 0), [1, 1]), (second.volumes(), second.lost(), second.lacks(), numbers(other)))


class Make(Case):
    def test_most_free_pieces_then_least_numbers(self):
        _, hall = made(2, 4, 3, 4)
        hall.make(0, 4, 2)
        self.assertEqual([[(1, 0), (3, 0)], [(1, 1), (2, 0)], [(3, 1), (0, 0)], [(1, 2), (2, 1)]], hall.places(0))

    def test_the_first_place_is_that_of_the_fullest_disk(self):
        _, hall = made(2, 3, 5)
        hall.make(3, 2, 3)
        self.assertEqual([[(2, 0), (1, 0), (0, 0)], [(2, 1), (1, 1), (0, 1)]], hall.places(3))

    def test_the_least_free_piece(self):
        _, hall = made(6)
        for name in range(4):
            hall.make(name, 1, 1)
        hall.drop(0)
        hall.drop(2)
        hall.make(7, 3, 1)
        self.assertEqual([[(0, 0)], [(0, 2)], [(0, 4)]], hall.places(7))

    def test_all_blocks_are_0(self):
        _, hall = made(3, 3)
        hall.make(0, 3, 2)
        for block in range(12):
            hall.write(0, block, 900 + block)
        hall.drop(0)
        hall.make(1, 3, 2)
        self.assertEqual([0] * 12, [hall.read(1, block) for block in range(12)])

    def test_all_copies_are_0(self):
        bench, hall = made(1, 1, 1)
        hall.make(0, 1, 3)
        for block in range(4):
            hall.write(0, block, 900 + block)
        hall.drop(0)
        hall.make(1, 1, 3)
        bench.lose(0)
        bench.lose(1)
        self.assertEqual([0] * 4, [hall.read(1, block) for block in range(4)])

    def test_none_and_36_pieces(self):
        _, hall = made(12, 12, 12, 12, 12, 12)
        hall.make(0, 36, 2)
        hall.make(9, 0, 3)
        self.assertEqual([(0, 36, 2), (9, 0, 3)], hall.volumes())
        self.assertEqual((36, []), (len(hall.places(0)), hall.places(9)))
        self.assertEqual(0, hall.room(1))
        hall.write(0, 143, 7)
        self.assertEqual(7, hall.read(0, 143))
        assert_refused(self, "BadNumber", hall.read, 0, 144)

    def test_no_pieces_where_there_is_no_room(self):
        bench, hall = made(1)
        hall.make(0, 1, 1)
        hall.make(1, 0, 3)
        hall.grow(0, 0)
        hall.leave(0)
        hall.make(2, 0, 1)
        bench.lose(0)
        hall.make(3, 0, 2)
        self.assertEqual([(0, 1, 1), (1, 0, 3), (2, 0, 1), (3, 0, 2)], hall.volumes())

    def test_bad_volumes(self):
        bench, hall = made(6, 6, 6)
        hall.make(0, 1, 2)
        for name in NOT_NAMES:
            self.assert_refused_and_nothing_changed("BadVolume", bench, hall, "make", name, 1, 1)
        for pieces in NOT_LENGTHS:
            self.assert_refused_and_nothing_changed("BadVolume", bench, hall, "make", 1, pieces, 1)
            # The name is there; there isn't room.
            self.assert_refused_and_nothing_changed("BadVolume", bench, hall, "make", 0, pieces, 1)
        for copies in NOT_COPIES:
            self.assert_refused_and_nothing_changed("BadVolume", bench, hall, "make", 1, 1, copies)
            self.assert_refused_and_nothing_changed("BadVolume", bench, hall, "make", 0, 36, copies)

    def test_a_name_that_is_there(self):
        bench, hall = made(6, 6, 6)
        hall.make(0, 1, 2)
        for pieces in (0, 1, 36):
            self.assert_refused_and_nothing_changed("NoVolume", bench, hall, "make", 0, pieces, 1)
        hall.drop(0)
        hall.make(0, 2, 1)
        self.assertEqual([(0, 2, 1)], hall.volumes())

    def test_full(self):
        bench, hall = made(2, 3, 1)
        self.assert_refused_and_nothing_changed("Full", bench, hall, "make", 0, 7, 1)
        self.assert_refused_and_nothing_changed("Full", bench, hall, "make", 0, 4, 2)
        self.assert_refused_and_nothing_changed("Full", bench, hall, "make", 0, 2, 3)
        hall.make(0, 3, 2)
        self.assertEqual([0, 0, 0], [hall.room(copies) for copies in (1, 2, 3)])
        self.assert_refused_and_nothing_changed("Full", bench, hall, "make", 1, 1, 1)
        self.assert_refused_and_nothing_changed("Full", bench, hall, "grow", 0, 1)

    def test_more_copies_than_disks(self):
        bench, hall = made(12, 12)
        self.assert_refused_and_nothing_changed("Full", bench, hall, "make", 0, 1, 3)
        bench.lose(0)
        self.assert_refused_and_nothing_changed("Full", bench, hall, "make", 0, 1, 2)
        hall.leave(1)
        self.assert_refused_and_nothing_changed("Full", bench, hall, "make", 0, 1, 1)

    def test_disks_that_are_to_be_emptied_get_no_pieces(self):
        _, hall = made(12, 3, 2)
        hall.leave(0)
        hall.make(0, 2, 2)
        self.assertEqual([[(1, 0), (2, 0)], [(1, 1), (2, 1)]], hall.places(0))
        hall.stay(0)
        hall.make(1, 1, 2)
        self.assertEqual([[(0, 0), (1, 2)]], hall.places(1))

    def test_the_goal_of_a_copy_under_way_is_not_free(self):
        _, hall = made(2, 1)
        hall.make(0, 1, 1)
        hall.mirror(0, 2)
        hall.step()
        self.assertEqual((0, 0, (1, 0), None, 1), hall.copying())
        hall.make(1, 1, 1)
        self.assertEqual([[(0, 1)]], hall.places(1))
        assert_refused(self, "Full", hall.make, 2, 1, 1)
        self.assertEqual(0, hall.room(1))


class Grow(Case):
    def test_pieces_more(self):
        _, hall = made(3, 4)
        hall.make(2, 1, 2)
        hall.write(2, 3, 5)
        hall.grow(2, 2)
        self.assertEqual([[(1, 0), (0, 0)], [(1, 1), (0, 1)], [(1, 2), (0, 2)]], hall.places(2))
        self.assertEqual([0, 0, 0, 5] + [0] * 8, [hall.read(2, block) for block in range(12)])
        self.assertEqual([(2, 3, 2)], hall.volumes())

    def test_all_new_blocks_are_0(self):
        _, hall = made(3)
        hall.make(0, 2, 1)
        for block in range(8):
            hall.write(0, block, 77)
        hall.drop(0)
        hall.make(0, 0, 1)
        hall.grow(0, 2)
        self.assertEqual([0] * 8, [hall.read(0, block) for block in range(8)])

    def test_to_36(self):
        bench, hall = made(12, 12, 12, 12)
        hall.make(0, 30, 1)
        self.assert_refused_and_nothing_changed("BadVolume", bench, hall, "grow", 0, 7)
        self.assert_refused_and_nothing_changed("BadVolume", bench, hall, "grow", 0, 36)
        hall.grow(0, 6)
        self.assertEqual([(0, 36, 1)], hall.volumes())
        self.assert_refused_and_nothing_changed("BadVolume", bench, hall, "grow", 0, 1)
        hall.grow(0, 0)

    def test_refusals_in_their_order(self):
        bench, hall = made(12, 12, 12)
        hall.make(0, 30, 1)
        for name in NOT_NAMES:
            self.assert_refused_and_nothing_changed("BadVolume", bench, hall, "grow", name, 1)
        for pieces in NOT_LENGTHS:
            self.assert_refused_and_nothing_changed("BadVolume", bench, hall, "grow", 0, pieces)
            self.assert_refused_and_nothing_changed("BadVolume", bench, hall, "grow", 1, pieces)
        for pieces in (0, 1, 36):
            self.assert_refused_and_nothing_changed("NoVolume", bench, hall, "grow", 1, pieces)
        hall.make(2, 3, 1)
        # Too many in all, and no room either.
        self.assert_refused_and_nothing_changed("BadVolume", bench, hall, "grow", 0, 7)
        self.assert_refused_and_nothing_changed("Full", bench, hall, "grow", 0, 6)

    def test_copies_as_are_wished(self):
        _, hall = made(4, 4)
        hall.make(0, 1, 1)
        hall.mirror(0, 2)
        hall.grow(0, 1)
        self.assertEqual([[(0, 0)], [(1, 0), (0, 1)]], hall.places(0))


class DropAndMirror(Case):
    def test_drop(self):
        _, hall = made(4, 4)
        hall.make(0, 2, 2)
        hall.make(1, 2, 2)
        self.assertEqual(0, hall.room(1))
        hall.drop(0)
        self.assertEqual(([(1, 2, 2)], 4), (hall.volumes(), hall.room(1)))
        assert_refused(self, "NoVolume", hall.read, 0, 0)
        assert_refused(self, "NoVolume", hall.places, 0)

    def test_drop_refuses(self):
        bench, hall = made(4, 4)
        hall.make(0, 2, 2)
        for name in NOT_NAMES:
            self.assert_refused_and_nothing_changed("BadVolume", bench, hall, "drop", name)
        for name in (1, 9):
            self.assert_refused_and_nothing_changed("NoVolume", bench, hall, "drop", name)

    def test_more_copies_are_wished(self):
        _, hall = made(4, 4)
        hall.make(0, 2, 1)
        hall.mirror(0, 3)
        self.assertEqual(([(0, 2, 3)], (4, 0)), (hall.volumes(), hall.lacks()))
        self.assertEqual([[(0, 0)], [(1, 0)]], hall.places(0))

    def test_the_first_copies_stay(self):
        for copies in (1, 2):
            _, hall = made(4, 4, 5)
            hall.make(0, 2, 3)
            self.assertEqual([[(2, 0), (0, 0), (1, 0)], [(2, 1), (0, 1), (1, 1)]], hall.places(0))
            hall.write(0, 4, 9)
            hall.mirror(0, copies)
            self.assertEqual([[(2, 0), (0, 0)][:copies], [(2, 1), (0, 1)][:copies]], hall.places(0))
            self.assertEqual((9, (0, 0)), (hall.read(0, 4), hall.lacks()))

    def test_copies_on_disks_that_are_to_be_emptied_go_first(self):
        for leaving, copies, wished in (
            ((2,), 2, [(0, 0), (1, 0)]), ((2,), 1, [(0, 0)]), ((0,), 2, [(2, 0), (1, 0)]), ((1,), 2, [(2, 0), (0, 0)]),
            ((0, 2), 1, [(1, 0)]), ((0, 2), 2, [(2, 0), (1, 0)]), ((0, 1), 2, [(2, 0), (0, 0)]),
            ((1, 2), 2, [(2, 0), (0, 0)]), ((0, 1, 2), 2, [(2, 0), (0, 0)]), ((0, 1, 2), 1, [(2, 0)]),
        ):
            _, hall = made(4, 4, 5)
            hall.make(0, 1, 3)
            for disk in leaving:
                hall.leave(disk)
            hall.mirror(0, copies)
            self.assertEqual([wished], hall.places(0), msg=(leaving, copies))

    def test_what_was_too_many_is_free(self):
        _, hall = made(1, 1, 1)
        hall.make(0, 1, 3)
        hall.mirror(0, 1)
        self.assertEqual(2, hall.room(1))

    def test_mirror_refuses(self):
        bench, hall = made(4, 4)
        hall.make(0, 2, 2)
        for name in NOT_NAMES:
            self.assert_refused_and_nothing_changed("BadVolume", bench, hall, "mirror", name, 1)
        for copies in NOT_COPIES:
            self.assert_refused_and_nothing_changed("BadVolume", bench, hall, "mirror", 0, copies)
            self.assert_refused_and_nothing_changed("BadVolume", bench, hall, "mirror", 1, copies)
        self.assert_refused_and_nothing_changed("NoVolume", bench, hall, "mirror", 1, 3)


class Blocks(Case):
    def test_the_number_written_last(self):
        _, hall = made(4, 4)
        hall.make(0, 3, 2)
        for block in range(12):
            self.assertEqual(0, hall.read(0, block))
        for number in (0, 1, 999, 5, 5, 0, 998):
            self.assertIsNone(hall.write(0, 11, number))
            self.assertEqual(number, hall.read(0, 11))
        self.assertEqual([0] * 11, [hall.read(0, block) for block in range(11)])

    def test_each_copy_holds_it(self):
        bench, hall = made(3, 3, 3)
        hall.make(0, 3, 3)
        for block in range(12):
            hall.write(0, block, 100 + block)
        for disk in range(3):
            for piece in range(3):
                self.assertEqual([100 + 4 * piece + k for k in range(4)], [bench.get(disk, piece, k) for k in range(4)])

    def test_read_as_long_as_a_copy_is_left(self):
        bench, hall = made(3, 3, 3)
        hall.make(0, 1, 3)
        hall.write(0, 2, 7)
        bench.lose(0)
        self.assertEqual(7, hall.read(0, 2))
        hall.write(0, 2, 8)
        bench.lose(1)
        self.assertEqual(8, hall.read(0, 2))
        hall.write(0, 2, 9)
        self.assertEqual(9, hall.read(0, 2))
        bench.lose(2)
        assert_refused(self, "Lost", hall.read, 0, 2)
        assert_refused(self, "Lost", hall.write, 0, 2, 5)

    def test_refusals_in_their_order(self):
        bench, hall = made(3, 3)
        hall.make(0, 2, 1)
        hall.make(1, 0, 1)
        bench.lose(0)
        hall.volumes()
        self.assertEqual([(0, 0)], hall.lost())
        for name in NOT_NAMES:
            self.assert_refused_and_nothing_changed("BadVolume", bench, hall, "read", name, 99)
            self.assert_refused_and_nothing_changed("BadVolume", bench, hall, "write", name, 99, 1000)
        for block in (0, 99, -1):
            self.assert_refused_and_nothing_changed("NoVolume", bench, hall, "read", 2, block)
            self.assert_refused_and_nothing_changed("NoVolume", bench, hall, "write", 2, block, 1000)
        for block in (8, 9, -1, -8, FAR, -FAR, *NO_NUMBERS):
            self.assert_refused_and_nothing_changed("BadNumber", bench, hall, "read", 0, block)
            self.assert_refused_and_nothing_changed("BadNumber", bench, hall, "write", 0, block, 5)
        for block in (0, 1, -1):
            self.assert_refused_and_nothing_changed("BadNumber", bench, hall, "read", 1, block)
            self.assert_refused_and_nothing_changed("BadNumber", bench, hall, "write", 1, block, 5)
        for block in range(4):
            self.assert_refused_and_nothing_changed("Lost", bench, hall, "read", 0, block)
            self.assert_refused_and_nothing_changed("Lost", bench, hall, "write", 0, block, 5)
            self.assert_refused_and_nothing_changed("Lost", bench, hall, "write", 0, block, 1000)
            self.assertEqual(0, hall.read(0, 4 + block))
        for number in (-1, 1000, FAR, -FAR, *NO_NUMBERS):
            self.assert_refused_and_nothing_changed("BadNumber", bench, hall, "write", 0, 7, number)


class Disks(Case):
    def test_what_goes_is_gone_from_the_map(self):
        bench, hall = made(4, 4, 4)
        hall.make(0, 2, 2)
        hall.leave(1)
        hall.leave(2)
        bench.lose(1)
        deeds = bench.deeds()
        self.assertEqual([[(0, 0)], [(2, 0), (0, 1)]], hall.places(0))
        self.assertEqual((deeds + 2, [5, None, 5]), (bench.deeds(), numbers(bench)))
        self.assertEqual((2,), bench.sheet(0)[2])
        self.assertEqual((1, 1), hall.lacks())
        self.assertEqual(deeds + 2, bench.deeds())

    def test_a_disk_of_which_nothing_is_in_the_map(self):
        bench, hall = made(4, 4, 9)
        hall.make(0, 1, 1)
        bench.lose(1)
        deeds = bench.deeds()
        hall.volumes()
        self.assertEqual((deeds, [2, None, 2]), (bench.deeds(), numbers(bench)))
        bench.bring(1, 3)
        hall.volumes()
        self.assertEqual((deeds + 3, [3, 3, 3]), (bench.deeds(), numbers(bench)))

    def test_a_disk_that_is_only_to_be_emptied(self):
        bench, hall = made(4, 4)
        hall.leave(1)
        bench.lose(1)
        hall.volumes()
        self.assertEqual([(3, (), ()), None], sheets(bench))
        bench.bring(1, 4)
        hall.volumes()
        self.assertEqual([(4, (), ())] * 2, sheets(bench))
        assert_refused(self, "NoDisk", hall.stay, 1)
        hall.leave(1)

    def test_a_disk_that_came_anew_between(self):
        bench, hall = made(4, 4)
        hall.make(0, 1, 2)
        hall.write(0, 0, 7)
        hall.leave(0)
        bench.lose(0)
        bench.bring(0, 4)
        self.assertEqual(7, hall.read(0, 0))
        self.assertEqual([[(1, 0)]], hall.places(0))
        self.assertEqual([(4, ((0, 2, (((1, 0),),)),), ())] * 2, sheets(bench))
        bench.lose(1)
        bench.bring(1, 4)
        assert_refused(self, "Lost", hall.read, 0, 0)
        self.assertEqual([(0, 0)], hall.lost())

    def test_all_that_is_done_or_told_sees_it(self):
        for step in (
            ("make", 1, 1, 1), ("grow", 0, 1), ("drop", 0), ("mirror", 0, 1), ("leave", 2), ("stay", 1), ("read", 0, 4),
            ("write", 0, 4, 5), ("step",), ("room", 1), ("lacks",), ("lost",), ("volumes",), ("places", 0), ("copying",),
        ):
            bench, hall = made(4, 4, 4)
            hall.make(0, 2, 2)
            hall.leave(1)
            bench.lose(0)
            bench.bring(0, 4)
            getattr(hall, step[0])(*step[1:])
            self.assertGreaterEqual(bench.sheet(0)[0], 4, msg=step)
            # No copy is on the new disk but one that a step has made since.
            self.assertEqual([], [place for row in bench.sheet(1)[1] for piece in row[2] for place in piece
                                  if place in ((0, 0), (0, 1)) and step[0] not in ("make", "grow")], msg=step)

    def test_what_is_refused_sees_it_too(self):
        for kind, word, *args in (
            ("NoVolume", "drop", 5), ("NoVolume", "make", 0, 1, 1), ("Full", "make", 1, 36, 1), ("NoDisk", "leave", 9),
            ("NoDisk", "stay", 0), ("BadNumber", "read", 0, 8), ("BadNumber", "write", 0, 0, 1000),
            ("BadVolume", "grow", 0, 36),
        ):
            bench, hall = made(4, 4, 4)
            hall.make(0, 2, 2)
            bench.lose(1)
            bench.bring(1, 4)
            assert_refused(self, kind, getattr(hall, word), *args)
            self.assertEqual([(3, ((0, 2, (((0, 0),), ((2, 0), (0, 1)))),), ())] * 3, sheets(bench))

    def test_leave_and_stay_refuse(self):
        bench, hall = made(4, 4, 4)
        hall.leave(1)
        bench.lose(2)
        hall.volumes()
        for disk in (1, 2, 3, 6, -1, FAR, -FAR, *NO_NUMBERS):
            self.assert_refused_and_nothing_changed("NoDisk", bench, hall, "leave", disk)
        for disk in (0, 2, 3, 6, -1, FAR, -FAR, *NO_NUMBERS):
            self.assert_refused_and_nothing_changed("NoDisk", bench, hall, "stay", disk)
        hall.stay(1)
        self.assert_refused_and_nothing_changed("NoDisk", bench, hall, "stay", 1)
        hall.leave(0)
        hall.leave(1)
        self.assertEqual((0, 1), bench.sheet(0)[2])
        self.assert_refused_and_nothing_changed("NoDisk", bench, hall, "leave", False)
        self.assert_refused_and_nothing_changed("NoDisk", bench, hall, "stay", True)

    def test_leaving_is_laid_rising(self):
        bench, hall = made(1, 1, 1, 1, 1, 1)
        for disk in (3, 0, 5, 1):
            hall.leave(disk)
        self.assertEqual([(5, (), (0, 1, 3, 5))] * 6, sheets(bench))


class Told(Case):
    def test_room(self):
        for sizes, wished in (
            ((12,), (12, 0, 0)), ((2, 3, 1), (6, 3, 1)), ((1, 12), (13, 1, 0)), ((12,) * 6, (72, 36, 24)),
            ((1, 1, 1), (3, 1, 1)), ((5, 1, 1), (7, 2, 1)), ((12, 3, 3), (18, 6, 3)), ((3, 3, 3, 3), (12, 6, 4)),
            ((2, 2, 2, 2), (8, 4, 2)), ((1, 1, 1, 1, 1), (5, 2, 1)),
        ):
            _, hall = made(*sizes)
            self.assertEqual(wished, tuple(hall.room(copies) for copies in (1, 2, 3)), msg=sizes)

    def test_so_many_can_be_made(self):
        for sizes in ((4, 2, 3), (9, 1, 1, 1), (5, 5, 1), (3, 3, 3, 3)):
            for copies in (1, 2, 3):
                _, hall = made(*sizes)
                count = hall.room(copies)
                assert_refused(self, "Full", hall.make, 0, count + 1, copies)
                hall.make(0, count, copies)
                self.assertEqual(0, hall.room(copies))

    def test_room_where_disks_leave_and_go(self):
        bench, hall = made(4, 4, 4)
        hall.make(0, 2, 2)
        self.assertEqual((8, 4, 2), tuple(hall.room(copies) for copies in (1, 2, 3)))
        hall.leave(1)
        self.assertEqual((5, 2, 0), tuple(hall.room(copies) for copies in (1, 2, 3)))
        bench.lose(0)
        self.assertEqual((3, 0, 0), tuple(hall.room(copies) for copies in (1, 2, 3)))
        bench.lose(2)
        self.assertEqual((0, 0, 0), tuple(hall.room(copies) for copies in (1, 2, 3)))

    def test_room_refuses(self):
        bench, hall = made(4, 4, 4)
        for copies in NOT_COPIES:
            self.assert_refused_and_nothing_changed("BadVolume", bench, hall, "room", copies)

    def test_volumes_rise(self):
        _, hall = made(4, 4)
        for name in (5, 0, 9, 2):
            hall.make(name, name & 1, 1 + (name & 1))
        self.assertEqual([(0, 0, 1), (2, 0, 1), (5, 1, 2), (9, 1, 2)], hall.volumes())

    def test_places_refuses(self):
        bench, hall = made(4, 4)
        for name in NOT_NAMES:
            self.assert_refused_and_nothing_changed("BadVolume", bench, hall, "places", name)
        self.assert_refused_and_nothing_changed("NoVolume", bench, hall, "places", 0)

    def test_lacks_and_lost(self):
        bench, hall = made(6, 6, 6)
        hall.make(3, 2, 2)
        hall.make(1, 3, 1)
        hall.make(2, 1, 3)
        self.assertEqual(((0, 0), []), (hall.lacks(), hall.lost()))
        hall.leave(0)
        hall.leave(1)
        self.assertEqual([[(0, 0), (1, 0)], [(2, 0), (0, 1)]], hall.places(3))
        self.assertEqual([[(1, 1)], [(2, 1)], [(0, 2)]], hall.places(1))
        self.assertEqual((0, 3 + 2 + 2), hall.lacks())
        bench.lose(0)
        self.assertEqual(([(1, 2)], (2 + 1 + 1, 1 + 1 + 1)), (hall.lost(), hall.lacks()))
        bench.lose(1)
        self.assertEqual(([(1, 0), (1, 2), (3, 0)], (3 + 2 + 2, 0)), (hall.lost(), hall.lacks()))
        bench.lose(2)
        self.assertEqual([(1, 0), (1, 1), (1, 2), (2, 0), (3, 0), (3, 1)], hall.lost())
        self.assertEqual((4 + 3 + 3, 0), hall.lacks())
        self.assertIsNone(hall.step())

    def test_what_is_told_may_be_changed(self):
        bench, hall = made(4, 4)
        hall.make(0, 2, 2)
        bench.lose(1)
        bench.bring(1, 4)
        hall.make(1, 1, 1)
        bench.lose(1)
        ahead = state(bench, hall)
        self.assertTrue(hall.lost())
        for told in (hall.volumes(), hall.lost(), hall.places(0), hall.places(0)[0]):
            told.clear()
            told.append(5)
        hall.places(0)[1].append((0, 0))
        self.assertEqual(ahead, state(bench, hall))


if __name__ == "__main__":
    unittest.main()
