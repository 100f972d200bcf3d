"""Promise 1: file and drop."""

import unittest

from tests.helper import LIST, MOST, ask, desk_after, drop, file, get, last

NAME_SIGNS = b"abcdefghijklmnopqrstuvwxyz0123456789_.-"


def full_desk():
    return [file("f%d" % i, [i]) for i in range(12)]


class FileTest(unittest.TestCase):
    def refuses(self, calls, call, number):
        """The call is refused so, and the desk stays as it was."""
        self.assertEqual(last(calls + [call]), [number])
        self.assertEqual(desk_after(calls + [call]), desk_after(calls))

    def test_answers_how_many_files_there_are(self):
        self.assertEqual(
            ask([file("b", [1]), file("a", []), file("b", [2, 3]), file("c/d", [4])]),
            [[1], [2], [2], [3]])

    def test_the_file_has_the_lines_whether_it_was_there_or_not(self):
        calls = [file("a", [1, 2]), file("b", [3]), file("a", [9, 9, 9])]
        self.assertEqual(desk_after(calls), {"a": [9, 9, 9], "b": [3]})
        self.assertEqual(desk_after(calls + [file("a", [])]), {"a": [], "b": [3]})

    def test_twelve_files_and_one_more(self):
        calls = full_desk()
        self.assertEqual(ask(calls), [[i] for i in range(1, 13)])
        self.refuses(calls, file("g", [1]), -5)

    def test_a_file_that_is_there_can_be_given_lines_on_a_full_desk(self):
        calls = full_desk() + [file("f3", [7, 8])]
        self.assertEqual(last(calls), [12])
        self.assertEqual(last(calls + [get("f3")]), [2, 7, 8])

    def test_each_byte_that_may_stand_in_a_name(self):
        for byte in range(256):
            if byte in NAME_SIGNS:
                self.assertEqual(last([file(bytes([byte]))]), [1], byte)
                self.assertEqual(last([file(b"a" + bytes([byte]) + b"b")]), [1], byte)
            else:
                self.refuses([file("x")], file(bytes([byte])), -2)
            if byte not in NAME_SIGNS + b"/":
                self.refuses([file("x")], file(b"a" + bytes([byte]) + b"b"), -2)

    def test_paths_at_the_edges(self):
        twelve = "a" * 12
        forty = "/".join([twelve, twelve, twelve, "b"])
        self.assertEqual(len(forty), 40)
        for path in (forty, twelve, "a/b/c/d", "0", "..", "a/../-", "x/" + twelve,
                     "a/" * 3 + twelve):
            self.assertEqual(last([file(path, [1])]), [1], path)
            self.assertEqual(desk_after([file(path, [1])]), {path: [1]})

    def test_what_is_no_path(self):
        twelve = "a" * 12
        for path in (forty_one(), "a" * 13, "a/b/c/d/e", "", "/", "a//b", "/a", "a/",
                     "a/b/", "x/" + twelve + "a", twelve + "a/x", "A", "a b", "a/B",
                     "a" * 60, "a/" * 30):
            self.refuses([file("x", [5])], file(path, [1]), -2)
        self.refuses([], file([0] * 60), -2)
        self.refuses([], file([97, 255]), -2)

    def test_lines_at_the_edges(self):
        for lines in ([], [0], [999999], [0, 999999] * 20, [7] * 40):
            self.assertEqual(last([file("a", lines), get("a")]), [len(lines)] + lines)

    def test_what_are_no_lines(self):
        for lines in ([-1], [1000000], [0] * 41, [0] * 60, [0] * 39 + [-1], [-1] + [0] * 39,
                      [MOST], [-MOST], [1, 2, 1000000, 3]):
            self.refuses([file("a", [5])], file("a", lines), -3)
            self.refuses([file("a", [5])], file("b", lines), -3)

    def test_a_clash_with_a_folder_above_and_below(self):
        self.refuses([file("a", [1])], file("a/b", [2]), -4)
        self.refuses([file("a", [1])], file("a/b/c/d", [2]), -4)
        self.refuses([file("a/b", [1])], file("a", [2]), -4)
        self.refuses([file("a/b/c/d", [1])], file("a", [2]), -4)
        self.refuses([file("a/b/c/d", [1])], file("a/b", [2]), -4)
        self.refuses([file("x"), file("a/b/c"), file("y")], file("a/b/c/d", [2]), -4)

    def test_paths_that_begin_alike_do_not_clash(self):
        for path in ("ab", "a.b", "a-b", "a0", "b/a", "b"):
            self.assertEqual(ask([file("a"), file(path)]), [[1], [2]])
            self.assertEqual(ask([file(path), file("a")]), [[1], [2]])
        self.assertEqual(ask([file("a/b"), file("a/c"), file("a/bc/d")]), [[1], [2], [3]])

    def test_a_file_that_is_there_does_not_clash_with_itself(self):
        self.assertEqual(ask([file("a/b", [1]), file("a/b", [2])]), [[1], [1]])

    def test_refusals_in_their_order(self):
        self.refuses([], file("", [-1]), -2)
        self.refuses([file("a")], file("a/B", [-1]), -2)
        self.refuses([file("a")], file("a/b", [-1]), -3)
        full = full_desk()
        self.refuses(full, file("A", [-1]), -2)
        self.refuses(full, file("g", [-1]), -3)
        self.refuses(full, file("f3/b", [0] * 41), -3)
        self.refuses(full, file("f3/b", [0]), -4)
        self.refuses(full, file("f3", [-1]), -3)

    def test_what_was_there_does_not_clash_any_more(self):
        self.assertEqual(ask([file("a"), drop("a"), file("a/b")]), [[1], [0], [1]])


def forty_one():
    path = "/".join(["a" * 12, "a" * 12, "a" * 12, "bb"])
    assert len(path) == 41
    return path


class DropTest(unittest.TestCase):
    def test_the_file_is_gone(self):
        calls = [file("a", [1]), file("b", [2]), file("c", [3]), drop("b")]
        self.assertEqual(last(calls), [2])
        self.assertEqual(desk_after(calls), {"a": [1], "c": [3]})
        self.assertEqual(ask(calls + [drop("a"), drop("c")])[-2:], [[1], [0]])

    def test_drop_from_a_full_desk_makes_place_for_one(self):
        calls = full_desk() + [drop("f0"), file("g", [1]), file("h", [1])]
        self.assertEqual(ask(calls)[-3:], [[11], [12], [-5]])

    def test_no_file_with_that_path(self):
        calls = [file("a/b", [1])]
        for path in ("a", "a/b/c", "b", "ab", "a/b/"):
            self.assertEqual(ask(calls + [drop(path), LIST])[1:], [[-6], [1, 3, 97, 47, 98, 1]])
        self.assertEqual(ask([file("a"), drop("a"), drop("a")]), [[1], [0], [-6]])
        self.assertEqual(last([drop("a")]), [-6])

    def test_what_is_no_path_is_refused_like_any_other(self):
        for path in ("", "A", "a//b", "a" * 60, [0, 255]):
            self.assertEqual(last([file("a"), drop(path)]), [-6])
