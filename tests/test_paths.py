"""Names, paths and their keys (points 32 and 33)."""

import itertools
import unittest

from tessera.paths import is_name, is_path, key_of, lies_in, parent, path_of, range_in

SMALL_SET = [""] + [
    "/".join(names) for count in (1, 2, 3) for names in itertools.product(["a", "a0", "az", "0", "z9", "b"], repeat=count)
]


class NameTests(unittest.TestCase):
    def test_names(self):
        for name in ["a", "z", "0", "9", "abcdefghijkl", "123456789012", "a1b2"]:
            self.assertIs(is_name(name), True)

    def test_what_is_no_name(self):
        for name in ["", "abcdefghijklm", "1234567890123", "A", "aB", "a-b", "a_b", "a b", " a", "a/b", "/", ".", "a.", "{", "`", ":"]:
            self.assertIs(is_name(name), False)

    def test_paths(self):
        for path in ["", "a", "a/b", "a/b/c/d/e/f", "0/0/0", "abcdefghijkl/abcdefghijkl"]:
            self.assertIs(is_path(path), True)

    def test_what_is_no_path(self):
        for path in [
            "/", "a/", "/a", "a//b", "a/b/c/d/e/f/g", "A", "a/B", "abcdefghijklm", "a/abcdefghijklm", "a b", "a/ /b", "//////",
        ]:
            self.assertIs(is_path(path), False)

    def test_parents(self):
        self.assertEqual(parent("a"), "")
        self.assertEqual(parent("a/b"), "a")
        self.assertEqual(parent("aa/bb/cc"), "aa/bb")

    def test_what_lies_in_what(self):
        for path, other in [("a/b", "a"), ("a/b/c", "a"), ("a/b/c", "a/b"), ("a", ""), ("a/b", "")]:
            self.assertIs(lies_in(path, other), True)
        for path, other in [
            ("a", "a"), ("a", "a/b"), ("ab", "a"), ("ab/c", "a"), ("a0", "a"), ("", ""), ("", "a"), ("b/a", "a"), ("a/bc", "a/b"),
        ]:
            self.assertIs(lies_in(path, other), False)


class KeyTests(unittest.TestCase):
    def test_keys(self):
        self.assertEqual(key_of(""), ())
        self.assertEqual(key_of("a/z09"), (97, 47, 122, 48, 57))
        self.assertEqual(path_of((97, 47, 122, 48, 57)), "a/z09")
        for path in SMALL_SET + ["abcdefghijkl/mnopqrstuvwx/yz0123456789"]:
            self.assertEqual(path_of(key_of(path)), path)

    def test_range_example(self):
        self.assertEqual(range_in("a"), ((97, 47), (97, 48)))

    def test_ranges(self):
        self.assertEqual(range_in(""), ((48,), None))
        for path in SMALL_SET:
            low, high = range_in(path)
            inside = [other for other in SMALL_SET if key_of(other) >= low and (high is None or key_of(other) < high)]
            self.assertEqual(inside, [other for other in SMALL_SET if lies_in(other, path)])

    def test_paths_that_lie_in_a_path_stand_behind_it(self):
        ordered = sorted(SMALL_SET, key=key_of)
        for path in SMALL_SET:
            inside = [other for other in ordered if lies_in(other, path)]
            first = ordered.index(path) + 1
            self.assertEqual(ordered[first:first + len(inside)], inside)


if __name__ == "__main__":
    unittest.main()
