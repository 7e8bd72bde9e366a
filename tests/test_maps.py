import copy
import random
import unittest

from helper import FAR
from volumehall.maps import judge

SIZES = [4, None, 12, 1]
GOOD = (7, ((2, 3, (((0, 1), (2, 11), (3, 0)), ((2, 0),), ())), (5, 1, (((0, 0),),)), (9, 2, ())), (0, 2))
NOT_NUMBERS = (True, False, None, "1", (1,), [1], ())
NOT_TUPLES = ([], [1], None, True, False, 0, 5, "", "abc", -1)


def sheet(*rows, number=1, leaving=()):
    return (number, rows, leaving)


def one_piece(*places, copies=3):
    """A sheet of one volume of one piece in these places."""
    return sheet((0, copies, (places,)))


class Judge(unittest.TestCase):
    def assert_judged(self, wished, thing, sizes=SIZES):
        self.assertEqual(repr(wished), repr(judge(sizes, thing)), msg=thing)

    def test_sheets_that_can_be(self):
        for thing in (
            GOOD, sheet(), sheet(number=0), sheet(number=10 ** 6), sheet(leaving=(0, 1, 2, 3)), sheet(leaving=(1,)),
            sheet((0, 1, ())), sheet(*[(name, 3, ()) for name in range(10)]), sheet((0, 1, ((),) * 36)),
            one_piece((0, 0)), one_piece((0, 3), (2, 11), (3, 0)), one_piece((3, 0), (2, 0), (0, 0)),
        ):
            self.assert_judged(None, thing)

    def test_things_that_are_no_sheets(self):
        for thing in (
            *NOT_TUPLES, (), (1,), (1, ()), (1, (), (), ()), [1, (), ()], (((), (), ())), "abc", ((), 1, ()), FAR,
        ):
            self.assert_judged((-1, -1), thing)

    def test_a_wrong_number(self):
        for number in (*NOT_NUMBERS, -1, 10 ** 6 + 1, FAR, -FAR):
            self.assert_judged((-1, -1), sheet(number=number))
            self.assert_judged((-1, -1), (number, ([],), [0]))

    def test_volumes_and_leaving_are_tuples(self):
        for thing in NOT_TUPLES:
            self.assert_judged((-1, -1), (1, thing, ()))
            self.assert_judged((-1, -1), (1, (), thing))

    def test_leaving_is_rising_numbers_of_disks(self):
        for leaving in (
            (4,), (-1,), (0, 0), (1, 0), (0, 2, 1), (0, 4), (FAR,), (-FAR,), (True,), (False,), (0, True), (None,), ("0",),
            ((0,),), ([],), (0, 1, 2, 3, 3), (2, 2),
        ):
            self.assert_judged((-1, -1), sheet(leaving=leaving))
            self.assert_judged((-1, -1), sheet((99, 9, None), leaving=leaving))
        self.assert_judged((-1, -1), sheet(leaving=(1,)), [3])
        self.assert_judged(None, sheet(leaving=(5,)), [3] * 6)
        self.assert_judged((-1, -1), sheet(leaving=(6,)), [3] * 6)

    def test_rows_that_are_none(self):
        for row in (*NOT_TUPLES, (), (1,), (1, 1), (1, 1, (), ()), [1, 1, ()]):
            self.assert_judged((0, -1), sheet(row))
            self.assert_judged((1, -1), sheet((0, 1, ()), row))
            self.assert_judged((2, -1), sheet((0, 1, ()), (8, 3, (((0, 0),),)), row, (0, 0, 0)))

    def test_wrong_names(self):
        for name in (*NOT_NUMBERS, -1, 10, FAR, -FAR):
            self.assert_judged((0, -1), sheet((name, 1, ())))
            self.assert_judged((1, -1), sheet((0, 1, ()), (name, 1, ())))
        for ahead, name in ((0, 0), (3, 3), (3, 2), (9, 0), (9, 9)):
            self.assert_judged((1, -1), sheet((ahead, 1, ()), (name, 1, ())))
        self.assert_judged((2, -1), sheet((2, 1, ()), (5, 1, ()), (3, 1, ())))

    def test_wrong_copies(self):
        for copies in (*NOT_NUMBERS, 0, 4, -1, FAR, -FAR):
            self.assert_judged((0, -1), sheet((0, copies, ())))
            self.assert_judged((1, -1), sheet((0, 1, ()), (1, copies, ((),))))

    def test_pieces_are_a_tuple_of_at_most_36(self):
        for pieces in NOT_TUPLES:
            self.assert_judged((0, -1), sheet((0, 1, pieces)))
        self.assert_judged((0, -1), sheet((0, 1, ((),) * 37)))
        self.assert_judged((0, -1), sheet((0, 1, (None,) * 37)))
        self.assert_judged((0, 0), sheet((0, 1, (None,) * 36)))

    def test_pieces_that_are_none(self):
        for piece in NOT_TUPLES:
            self.assert_judged((0, 0), sheet((0, 3, (piece,))))
            self.assert_judged((0, 2), sheet((0, 3, ((), ((0, 0),), piece, None))))
            self.assert_judged((1, 1), sheet((0, 3, ()), (3, 3, ((), piece))))

    def test_no_more_places_than_copies(self):
        places = ((0, 0), (2, 0), (3, 0))
        self.assert_judged(None, one_piece(*places, copies=3))
        self.assert_judged((0, 0), one_piece(*places, copies=2))
        self.assert_judged((0, 0), one_piece(*places, copies=1))
        self.assert_judged((0, 0), one_piece((0, 0), (2, 0), copies=1))
        self.assert_judged((0, 0), one_piece((0, 0), (2, 0), (3, 0), (4, 0)), [5] * 6)

    def test_wrong_places(self):
        for place in (*NOT_TUPLES, (), (0,), (0, 0, 0), [0, 0], ((0, 0),)):
            self.assert_judged((0, 0), one_piece(place))
            self.assert_judged((0, 0), one_piece((2, 0), place))
        for number in (*NOT_NUMBERS, -1, 4, FAR, -FAR):
            self.assert_judged((0, 0), one_piece((number, 0)))
            self.assert_judged((0, 0), one_piece((0, number)))
        # A disk that isn't there, and pieces that disks don't have.
        for place in ((1, 0), (0, 4), (2, 12), (3, 1), (-4, 0), (0, -1)):
            self.assert_judged((0, 0), one_piece(place))
        for place in ((0, 3), (2, 11), (3, 0)):
            self.assert_judged(None, one_piece(place))

    def test_unlike_disks(self):
        self.assert_judged((0, 0), one_piece((0, 0), (0, 1)))
        self.assert_judged((0, 0), one_piece((0, 0), (0, 0)))
        self.assert_judged((0, 1), sheet((0, 3, (((0, 0),), ((2, 5), (0, 1), (2, 4))))))

    def test_none_that_a_piece_ahead_has(self):
        self.assert_judged((0, 1), sheet((0, 2, (((0, 0), (2, 0)), ((2, 0),)))))
        self.assert_judged((1, 0), sheet((0, 2, (((0, 0), (2, 0)),)), (1, 1, (((2, 0),), ((0, 0),)))))
        self.assert_judged((3, 1), sheet((0, 1, (((0, 0),),)), (1, 1, ()), (2, 1, ()), (4, 2, (((3, 0),), ((2, 0), (0, 0))))))
        self.assert_judged(None, sheet((0, 2, (((0, 0), (2, 0)), ((2, 1), (0, 1))))))

    def test_the_first_of_several(self):
        self.assert_judged((0, 1), sheet((0, 1, ((), None)), (0, 9, None), (None,)))
        self.assert_judged((0, -1), sheet((0, 9, (None,)), (0, 9, None)))
        self.assert_judged((1, -1), sheet((0, 1, ()), (0, 1, (None,)), None))
        self.assert_judged((1, 0), sheet((0, 1, ()), (1, 1, (None, None)), None))
        self.assert_judged((-1, -1), sheet((0, 1, (None,)), None, number=-1))

    def test_sizes_as_of_a_bench(self):
        self.assert_judged((0, 0), one_piece((0, 0)), [None])
        self.assert_judged(None, one_piece((0, 0)), [1])
        self.assert_judged((0, 0), one_piece((0, 1)), [1])
        self.assert_judged(None, one_piece((5, 11)), [None] * 5 + [12])
        self.assert_judged((0, 0), one_piece((6, 0)), [12] * 6)
        self.assert_judged((0, 2), sheet((0, 1, (((0, 0),), ((0, 1),), ((0, 2),)))), [2, 2])

    def test_nothing_is_changed(self):
        rows = [1, [2]]
        sizes = list(SIZES)
        for thing in (GOOD, rows, (1, ([rows],), ()), (1, ((0, 1, ([rows],)),), ())):
            kept = copy.deepcopy(thing)
            judge(sizes, thing)
            self.assertEqual(kept, thing)
        self.assertEqual([4, None, 12, 1], sizes)

    def test_some_change_anywhere_in_a_good_one(self):
        """Each part of a good sheet put out of its range is found where it stands."""
        number, rows, leaving = GOOD
        for row, (name, copies, pieces) in enumerate(rows):
            for wrong in (None, -1, True, [], FAR):
                self.assert_judged((row, -1), (number, (*rows[:row], (wrong, copies, pieces), *rows[row + 1:]), leaving))
                self.assert_judged((row, -1), (number, (*rows[:row], (name, wrong, pieces), *rows[row + 1:]), leaving))
                for at in range(len(pieces)):
                    some = (*pieces[:at], wrong, *pieces[at + 1:])
                    changed = (number, (*rows[:row], (name, copies, some), *rows[row + 1:]), leaving)
                    self.assert_judged((row, at), changed)

    def test_random_things_are_judged(self):
        chance = random.Random(3)
        parts = (0, 1, 2, 3, 9, 10, True, False, None, "a", "", -1, FAR)

        def some_thing(depth):
            if depth == 0 or chance.random() < 0.3:
                return chance.choice(parts)
            kind = chance.choice((tuple, tuple, list))
            return kind(some_thing(depth - 1) for _ in range(chance.randrange(4)))

        for _ in range(3000):
            for thing in (some_thing(5), (1, (some_thing(4),), ()), (1, ((0, 2, (some_thing(3),)),), ())):
                told = judge(SIZES, thing)
                self.assertIn(told.__class__, (tuple, type(None)))


if __name__ == "__main__":
    unittest.main()
