"""Promises 2 and 3: take, list and get."""

import unittest

from tests.helper import (BEGIN, LIST, MOST, PUSH, ask, desk_after, drop, file, get, last, take,
                          trees_after, stack_of)

THREE = [{"a": [1]}, {"a": [1], "b": [2, 2]}, {"c/d": [3]}, {}]


class TakeTest(unittest.TestCase):
    def test_the_desk_becomes_the_tree_behind_so_many_changes(self):
        calls = stack_of(THREE)
        for i, tree in enumerate(THREE):
            self.assertEqual(last(calls + [take(i)]), [len(tree)])
            self.assertEqual(desk_after(calls + [take(i)]), tree)

    def test_from_0_to_the_number_of_changes(self):
        calls = stack_of(THREE) + [file("z", [9])]
        for i in (4, 5, 6, 7, -1, -2, -4, MOST, -MOST):
            self.assertEqual(last(calls + [take(i)]), [-1])
            self.assertEqual(desk_after(calls + [take(i)]), {"z": [9]})
        six = [{"a": [i]} for i in range(7)]
        self.assertEqual(last(stack_of(six) + [take(6)]), [1])
        self.assertEqual(desk_after(stack_of(six) + [take(6)]), {"a": [6]})
        self.assertEqual(last(stack_of(six) + [take(7)]), [-1])

    def test_in_the_beginning_there_is_an_empty_base(self):
        self.assertEqual(ask([file("a"), take(1), take(0), LIST]), [[1], [-1], [0], [0]])

    def test_twelve_files(self):
        tree = {"f%d" % i: [i] for i in range(12)}
        self.assertEqual(last(stack_of([tree, {}]) + [take(0)]), [12])

    def test_take_leaves_the_stack(self):
        for i in range(4):
            self.assertEqual(trees_after(stack_of(THREE) + [take(i)]), THREE)

    def test_what_is_done_on_the_desk_leaves_the_stack(self):
        calls = stack_of(THREE) + [take(1), file("a", [7]), drop("b"), file("e", [8])]
        self.assertEqual(desk_after(calls), {"a": [7], "e": [8]})
        self.assertEqual(trees_after(calls), THREE)


class ListTest(unittest.TestCase):
    def test_no_files(self):
        self.assertEqual(last([LIST]), [0])

    def test_files_in_the_order_of_their_bytes(self):
        paths = ["b", "a0", "a/b", "a_", "a.c", "a-c", "az", "ab/c", "0", "a/b-", "zz", "aaa"]
        listed = last([file(path, [0] * i) for i, path in enumerate(paths)] + [LIST])
        awaited = [12]
        for path in sorted(paths, key=lambda path: path.encode("ascii")):
            awaited += [len(path)] + list(path.encode("ascii")) + [paths.index(path)]
        self.assertEqual(listed, awaited)

    def test_a_path_comes_before_all_that_go_on_behind_it(self):
        self.assertEqual(last([file("ab"), file("a", [5, 6]), file("abc"), LIST]),
                         [3, 1, 97, 2, 2, 97, 98, 0, 3, 97, 98, 99, 0])

    def test_a_file_with_forty_lines(self):
        self.assertEqual(last([file("a", [8] * 40), LIST]), [1, 1, 97, 40])

    def test_list_leaves_the_desk(self):
        self.assertEqual(ask([file("b", [1]), LIST, LIST, get("b")])[1:],
                         [[1, 1, 98, 1], [1, 1, 98, 1], [1, 1]])


class GetTest(unittest.TestCase):
    def test_the_lines_in_their_order(self):
        calls = [file("a", [3, 1, 2, 3]), file("a.b", [7])]
        self.assertEqual(last(calls + [get("a")]), [4, 3, 1, 2, 3])
        self.assertEqual(last(calls + [get("a.b")]), [1, 7])
        self.assertEqual(last([file("a"), get("a")]), [0])

    def test_no_file_with_that_path(self):
        calls = [file("a/b", [1]), file("c", [2]), drop("c")]
        for path in ("a", "a/b/c", "c", "", "A", "a//b", "a" * 60, [0, 255]):
            self.assertEqual(last(calls + [get(path)]), [-6])
            self.assertEqual(desk_after(calls + [get(path)]), {"a/b": [1]})

    def test_only_the_desk_is_looked_at(self):
        self.assertEqual(last([file("a"), BEGIN, PUSH, drop("a"), get("a")]), [-6])


class AnswersTest(unittest.TestCase):
    def test_nothing_is_kept_from_one_list_of_calls_to_the_next(self):
        calls = [file("a", [1]), BEGIN, PUSH, PUSH, LIST]
        first = ask(calls)
        self.assertEqual(ask(calls), first)
        self.assertEqual(ask([LIST, take(1)]), [[0], [-1]])

    def test_the_answers_as_one_list(self):
        from changestacks.desk import answers
        self.assertEqual(answers([0, 1, 97, 2, 5, 6, 4, 1, 97, 1, 1, 98, 5, 2, 1, 3]),
                         [1, 1, 3, 2, 5, 6, 1, -6, 2, 0, 0, 1, -1, 4, 1, 1, 97, 2])
        self.assertEqual(answers([3]), [1, 0])

    def test_four_hundred_calls(self):
        self.assertEqual(ask([LIST] * 400), [[0]] * 400)
