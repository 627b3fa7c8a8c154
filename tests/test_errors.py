"""The interface, leafsay/errors.py; point 2 for the list of a Ring."""

import unittest

from leafsay import errors

PLAIN = ["NoText", "TooGreat", "NoName", "NoRule", "NoKind", "NoTree", "NoPlace", "NoGiven", "NoWalk"]
ALL = PLAIN + ["Ring"]


class Classes(unittest.TestCase):
    def test_leaf_error_stands_under_value_error(self):
        self.assertTrue(issubclass(errors.LeafError, ValueError))

    def test_each_stands_under_leaf_error(self):
        for name in ALL:
            with self.subTest(name):
                self.assertTrue(issubclass(getattr(errors, name), errors.LeafError))
                self.assertTrue(issubclass(getattr(errors, name), ValueError))

    def test_none_stands_under_another(self):
        for one in ALL:
            for other in ALL:
                if one != other:
                    with self.subTest(one=one, other=other):
                        self.assertFalse(issubclass(getattr(errors, one), getattr(errors, other)))

    def test_each_is_raised_with_words_and_taken_as_leaf_error(self):
        for name in PLAIN:
            with self.subTest(name):
                with self.assertRaises(errors.LeafError) as taken:
                    raise getattr(errors, name)("some words")
                self.assertEqual(str(taken.exception), "some words")


class RingField(unittest.TestCase):
    def test_field(self):
        for ring in ([], [(0, "a")], [(0, "a"), (1, "b")], [((), "a"), ((1, 2), "b")]):
            with self.subTest(ring):
                error = errors.Ring(ring)
                self.assertIs(type(error.ring), list)
                self.assertEqual(error.ring, ring)

    def test_raised(self):
        with self.assertRaises(errors.LeafError) as taken:
            raise errors.Ring([1, 2, 3])
        self.assertIsInstance(taken.exception, errors.Ring)
        self.assertEqual(taken.exception.ring, [1, 2, 3])

    def test_list_handed_in_is_left_and_not_shared(self):
        ring = [1, 2]
        error = errors.Ring(ring)
        self.assertEqual(ring, [1, 2])
        error.ring.append(3)
        self.assertEqual(ring, [1, 2])
        other = errors.Ring(ring)
        ring.clear()
        self.assertEqual(other.ring, [1, 2])


if __name__ == "__main__":
    unittest.main()
