import unittest

from volumehall.plain import copied, is_number


class Numbers(unittest.TestCase):
    def test_from_the_least_to_the_most(self):
        self.assertEqual([2, 3, 4], [k for k in range(-1, 9) if is_number(k, 2, 4)])

    def test_none_between(self):
        self.assertFalse(is_number(0, 0, -1))

    def test_truths_are_none(self):
        self.assertFalse(is_number(True, 0, 9))
        self.assertFalse(is_number(False, 0, 9))

    def test_other_things_are_none(self):
        for thing in (None, "1", (1,), [1]):
            self.assertFalse(is_number(thing, 0, 9))


class Copies(unittest.TestCase):
    def test_what_is_copied_is_alike(self):
        for thing in ((), [], (1, "a", None, True), [(), [[]], ([1], (2, [3]))], None, "text", 5, False):
            with self.subTest(thing=thing):
                self.assertEqual(repr(thing), repr(copied(thing)))

    def test_no_list_in_it_is_the_same(self):
        inner = [1]
        thing = (inner, [inner, (inner,)])
        other = copied(thing)
        inner.append(2)
        self.assertEqual(([1], [[1], ([1],)]), other)

    def test_deep_things(self):
        thing = ()
        for _ in range(5000):
            thing = (thing, [1])
        other = copied(thing)
        for _ in range(5000):
            self.assertEqual([1], other[1])
            self.assertIsNot(thing[1], other[1])
            thing, other = thing[0], other[0]
        self.assertEqual((), other)


if __name__ == "__main__":
    unittest.main()
