import unittest

from handshaker.errors import InvalidCount, InvalidVersion, NotOwner
from handshaker.stripes import Stripes
from tests.examples import run_example

EXAMPLE = """
>>> from handshaker.stripes import Stripes
>>> stripes = Stripes(2)
>>> stripes.stripe_of(5), stripes.lock(1, 0), stripes.lock(1, 2), stripes.owner(1)
(1, True, False, 0)
>>> stripes.tick()
1
>>> stripes.stamp(1, 0, 1)
>>> stripes.version(1), stripes.is_open(1, 2, 0), stripes.is_open(1, 2, 1)
(1, False, True)
>>> stripes.free(0, 0)
raises NotOwner
"""


def all_of(stripes):
    """All that a Stripes tells."""
    rows = [(stripes.version(stripe), stripes.owner(stripe)) for stripe in range(stripes.count)]
    return stripes.count, stripes.clock, rows


class StripesTest(unittest.TestCase):
    def assert_fails(self, error, stripes, call, *arguments):
        before = all_of(stripes)
        with self.assertRaises(error) as caught:
            call(*arguments)
        self.assertIs(caught.exception.__class__, error)
        self.assertEqual(all_of(stripes), before)

    def test_example(self):
        run_example(self, EXAMPLE)

    def test_methods_stand_in_the_class(self):
        for name in ("stripe_of", "version", "owner", "tick", "lock", "free", "stamp", "is_open"):
            self.assertIn(name, vars(Stripes))

    def test_at_first(self):
        for count in (1, 2, 7):
            self.assertEqual(all_of(Stripes(count)), (count, 0, [(0, None)] * count))

    def test_counts_that_are_too_low(self):
        for count in (0, -1, -1000000000):
            with self.assertRaises(InvalidCount) as caught:
                Stripes(count)
            self.assertIs(caught.exception.__class__, InvalidCount)

    def test_stripe_of(self):
        self.assertEqual([Stripes(3).stripe_of(cell) for cell in range(8)], [0, 1, 2, 0, 1, 2, 0, 1])
        self.assertEqual([Stripes(1).stripe_of(cell) for cell in range(3)], [0, 0, 0])
        self.assertEqual(Stripes(30).stripe_of(23), 23)

    def test_tick(self):
        stripes = Stripes(2)
        self.assertEqual([stripes.tick(), stripes.tick(), stripes.clock], [1, 2, 2])
        self.assertEqual(all_of(stripes), (2, 2, [(0, None), (0, None)]))

    def test_lock(self):
        stripes = Stripes(3)
        self.assertIs(stripes.lock(1, 0), True)
        self.assertEqual(all_of(stripes), (3, 0, [(0, None), (0, 0), (0, None)]))
        for thread in (0, 1, 5):
            self.assertIs(stripes.lock(1, thread), False)
            self.assertEqual(stripes.owner(1), 0)
        self.assertIs(stripes.lock(2, 1), True)
        self.assertEqual(stripes.owner(2), 1)

    def test_free(self):
        stripes = Stripes(2)
        stripes.lock(0, 0)
        stripes.lock(1, 3)
        self.assert_fails(NotOwner, stripes, stripes.free, 0, 3)
        self.assert_fails(NotOwner, stripes, stripes.free, 1, 0)
        self.assertIsNone(stripes.free(0, 0))
        self.assertEqual(all_of(stripes), (2, 0, [(0, None), (0, 3)]))
        self.assert_fails(NotOwner, stripes, stripes.free, 0, 0)
        self.assertIs(stripes.lock(0, 3), True)

    def test_freeing_leaves_the_version(self):
        stripes = Stripes(1)
        stripes.lock(0, 2)
        stripes.stamp(0, 2, 4)
        stripes.lock(0, 1)
        stripes.free(0, 1)
        self.assertEqual(all_of(stripes), (1, 0, [(4, None)]))

    def test_stamp(self):
        stripes = Stripes(2)
        stripes.lock(0, 0)
        self.assertIsNone(stripes.stamp(0, 0, 1))
        self.assertEqual(all_of(stripes), (2, 0, [(1, None), (0, None)]))
        stripes.lock(0, 1)
        stripes.stamp(0, 1, 9)
        self.assertEqual(all_of(stripes), (2, 0, [(9, None), (0, None)]))

    def test_stamps_that_fail(self):
        stripes = Stripes(2)
        self.assert_fails(NotOwner, stripes, stripes.stamp, 0, 0, 1)
        stripes.lock(0, 0)
        self.assert_fails(NotOwner, stripes, stripes.stamp, 0, 1, 1)
        self.assert_fails(InvalidVersion, stripes, stripes.stamp, 0, 0, 0)
        self.assert_fails(InvalidVersion, stripes, stripes.stamp, 0, 0, -1)
        stripes.stamp(0, 0, 5)
        stripes.lock(0, 1)
        for version in (0, 4, 5):
            self.assert_fails(InvalidVersion, stripes, stripes.stamp, 0, 1, version)
            self.assert_fails(NotOwner, stripes, stripes.stamp, 0, 0, version)
        stripes.stamp(0, 1, 6)
        self.assert_fails(NotOwner, stripes, stripes.stamp, 0, 1, 3)

    def test_is_open(self):
        stripes = Stripes(2)
        for thread in (0, 1):
            self.assertEqual([stripes.is_open(0, thread, version) for version in (-1, 0, 1)], [False, True, True])
        stripes.lock(0, 0)
        self.assertEqual([stripes.is_open(0, 0, version) for version in (-1, 0, 1)], [False, True, True])
        self.assertEqual([stripes.is_open(0, 1, version) for version in (-1, 0, 1)], [False, False, False])
        self.assertIs(stripes.is_open(1, 1, 0), True)
        stripes.stamp(0, 0, 3)
        for thread in (0, 1):
            self.assertEqual([stripes.is_open(0, thread, version) for version in (2, 3, 4)], [False, True, True])
        stripes.lock(0, 1)
        self.assertEqual([stripes.is_open(0, 1, version) for version in (2, 3, 4)], [False, True, True])
        self.assertEqual([stripes.is_open(0, 0, version) for version in (2, 3, 4)], [False, False, False])

    def test_stripes_of_cells(self):
        self.assertEqual(Stripes(3).stripes_of([7, 2, 5, 1]), [1, 2])
        self.assertEqual(Stripes(5).stripes_of({9: 0, 3: 0, 0: 0}), [0, 3, 4])
        self.assertEqual(Stripes(2).stripes_of([]), [])


if __name__ == "__main__":
    unittest.main()
