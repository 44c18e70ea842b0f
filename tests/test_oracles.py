"""The plain ways that the other tests trust, looked at by hand."""

from fractions import Fraction
from unittest import TestCase, main

from tests.oracles import bent, covering, lowest, meetings, thinned, thinned_open


class Plain(TestCase):
    def test_thinned(self):
        self.assertEqual(thinned([(2, 1), (1, 2), (2, 2), (1, 2)]), ((1, 2), (2, 1)))
        self.assertIsNone(thinned([]))

    def test_open(self):
        self.assertTrue(covering((1, ("b",)), (1, ("a", "b"))))
        self.assertFalse(covering((1, ("b", "b")), (1, ("a", "b"))))
        self.assertEqual(thinned_open([(1, ("b", "a")), (1, ("b",)), (0, ("a", "a"))]), ((0, ("a", "a")), (1, ("b",))))

    def test_lowest(self):
        self.assertEqual(meetings([(0, 2), (1, 0)], 3), [0, Fraction(1, 2), 3])
        self.assertEqual(lowest([(5, 0), (4, 1), (6, 0)], 3), ((4, 1), (5, 0)))
        self.assertIsNone(lowest([], 3))

    def test_bent(self):
        self.assertIn(((0, ("a",)), (3, [])), bent(((0, ("a",)), (3, ()))))
        self.assertNotIn(3, bent(3))
        self.assertNotIn((), bent(()))


if __name__ == "__main__":
    main()
