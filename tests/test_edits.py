"""Promises 11 and 12: edits, both and sizes."""

import itertools

from tests.helper import (BEGIN, MOST, NO_NUMBERS, PUSH, REBASE, SIX, SIZES, StackCase, amend, ask, both,
                          both_after, edits, edits_after, file, last, lay, stack_of, tower)

# In the order of their bytes.
ORDERED = ["-", ".", "0", "a", "a-b", "a.b", "a0", "aa", "b/a-", "b/a/c", "b/a0", "b_"]


def hunk(old, new):
    """The place, the old lines and the new lines of the hunk between two files."""
    told = edits_after(stack_of([{"f": old}, {"f": new}]), 1)
    if len(told) != 1 or told[0][:2] != ("hunk", "f"):
        raise AssertionError("not one hunk of f: %s" % told)
    return told[0][2:]


class EditsTest(StackCase):
    def test_number_by_number(self):
        calls = stack_of([{"d": [5, 6], "h/k": [1, 2, 3]}, {"h/k": [1, 8, 9, 3], "a": [7]}])
        self.assertEqual(last(calls + [edits(1)]), [
            3,
            1, 1, 100, 2, 5, 6,
            3, 3, 104, 47, 107, 1, 1, 2, 2, 8, 9,
            0, 1, 97, 1, 7])

    def test_dels_then_hunks_then_adds_each_in_order(self):
        old = {"z": [1], "b": [2], "y": [3], "c": [4], "x": [5]}
        new = {"y": [6], "c": [7], "x": [5], "w": [8], "a": [9]}
        self.assertEqual(edits_after(stack_of([old, new]), 1), [
            ("del", "b", [2]), ("del", "z", [1]),
            ("hunk", "c", 0, [4], [7]), ("hunk", "y", 0, [3], [6]),
            ("add", "a", [9]), ("add", "w", [8])])

    def test_paths_of_each_kind_are_in_order_byte_by_byte(self):
        one = {path: [1] for path in ORDERED[6:] + ORDERED[:6]}
        two = {path: [2] for path in reversed(ORDERED)}
        for trees, kind in (([one, {}], "del"), ([one, two], "hunk"), ([{}, two], "add")):
            told = edits_after(stack_of(trees), 1)
            self.assertEqual([edit[:2] for edit in told], [(kind, path) for path in ORDERED])

    def test_files_without_lines(self):
        self.assertEqual(edits_after(stack_of([{"a": []}, {"b": []}]), 1), [
            ("del", "a", []), ("add", "b", [])])
        self.assertEqual(last(stack_of([{"a": []}, {"b": []}]) + [edits(1)]),
                         [2, 1, 1, 97, 0, 0, 1, 98, 0])
        self.assertEqual(hunk([], [1, 2]), (0, [], [1, 2]))
        self.assertEqual(hunk([1, 2], []), (0, [1, 2], []))
        self.assertEqual(edits_after(stack_of([{"a": []}, {"a": []}]), 1), [])

    def test_no_edits_at_all(self):
        calls = stack_of([{"a": [1], "b": []}] * 2)
        self.assertEqual(last(calls + [edits(1)]), [0])
        self.assertEqual(last([PUSH, edits(1)]), [0])

    def test_what_is_alike_from_the_beginning_and_from_the_end_is_left_out(self):
        self.assertEqual(hunk([1, 2, 3], [1, 4, 3]), (1, [2], [4]))
        self.assertEqual(hunk([1, 2, 3], [4, 2, 3]), (0, [1], [4]))
        self.assertEqual(hunk([1, 2, 3], [1, 2, 4]), (2, [3], [4]))
        self.assertEqual(hunk([1, 2, 3], [4, 5]), (0, [1, 2, 3], [4, 5]))
        self.assertEqual(hunk([1, 2, 3], [1, 3]), (1, [2], []))
        self.assertEqual(hunk([1, 3], [1, 2, 3]), (1, [], [2]))
        self.assertEqual(hunk([1, 2], [1, 2, 3]), (2, [], [3]))
        self.assertEqual(hunk([1, 2], [0, 1, 2]), (0, [], [0]))
        self.assertEqual(hunk([1, 2, 3], [3, 2, 1]), (0, [1, 2, 3], [3, 2, 1]))

    def test_one_hunk_with_the_lines_between_that_are_alike(self):
        self.assertEqual(hunk([1, 2, 3, 4, 5], [9, 2, 3, 4, 8]), (0, [1, 2, 3, 4, 5], [9, 2, 3, 4, 8]))
        self.assertEqual(hunk([0, 1, 2, 3, 0], [0, 4, 2, 5, 0]), (1, [1, 2, 3], [4, 2, 5]))

    def test_lines_alike_from_both_sides_count_from_the_beginning(self):
        self.assertEqual(hunk([1], [1, 1]), (1, [], [1]))
        self.assertEqual(hunk([1, 1], [1]), (1, [1], []))
        self.assertEqual(hunk([1, 1, 1], [1]), (1, [1, 1], []))
        self.assertEqual(hunk([1, 1, 1, 1], [1, 1]), (2, [1, 1], []))
        self.assertEqual(hunk([1, 2], [1, 2, 1, 2]), (2, [], [1, 2]))
        self.assertEqual(hunk([1, 2, 1], [1, 2, 1, 2, 1]), (3, [], [2, 1]))
        self.assertEqual(hunk([1, 2, 1, 2, 1], [1, 2, 1]), (3, [2, 1], []))
        self.assertEqual(hunk([1, 2, 3, 2, 1], [1, 2, 1]), (2, [3, 2], []))
        self.assertEqual(hunk([1, 2, 1], [1, 2, 3, 2, 1]), (2, [], [3, 2]))
        self.assertEqual(hunk([5, 5, 6], [5, 6]), (1, [5], []))
        self.assertEqual(hunk([5, 6], [5, 5, 6]), (1, [], [5]))
        self.assertEqual(hunk([7] * 39, [7] * 40), (39, [], [7]))
        self.assertEqual(hunk([7] * 40, [7]), (1, [7] * 39, []))

    def test_short_files(self):
        texts = [list(text) for size in range(4) for text in itertools.product((1, 2), repeat=size)]
        for old, new in itertools.permutations(texts, 2):
            place, gone, come = hunk(old, new)
            behind = len(old) - place - len(gone)
            self.assertEqual(old[:place] + come + old[place + len(gone):], new)
            self.assertTrue(place == min(len(old), len(new)) or old[place] != new[place])
            self.assertTrue(not gone or not come or gone[-1] != come[-1])
            self.assertTrue(0 <= behind <= min(len(old), len(new)) - place)

    def test_each_change_by_its_number(self):
        calls = lay(stack_of(tower()), {"z": [9]})
        for i, path in enumerate("abc", start=1):
            self.leaves(calls, edits(i), [1, 3, 1, ord(path), 0, 1, 0, 1, i])
        for i in range(1, 7):
            self.assertEqual(edits_after(stack_of(SIX), i), [("hunk", "a", 0, [i - 1], [i])])

    def test_the_edits_follow_when_the_trees_below_change(self):
        calls = lay(stack_of([{"a": [1, 2, 3]}, {"a": [1, 2, 4]}]), {"a": [9, 1, 2, 3]})
        self.assertEqual(edits_after(calls, 1), [("hunk", "a", 2, [3], [4])])
        self.assertEqual(edits_after(calls + [REBASE], 1), [("hunk", "a", 3, [3], [4])])
        self.assertEqual(edits_after(calls + [amend(1)], 1), [("hunk", "a", 0, [], [9])])

    def test_the_longest_answer(self):
        old = {"%s/%s/%s/%s" % ("a" * 12, "b" * 12, "c" * 12, chr(97 + i)): [i] * 40 for i in range(12)}
        new = {"%s/%s/%s/%s" % ("a" * 12, "b" * 12, "d" * 12, chr(97 + i)): [i] * 40 for i in range(12)}
        answer = last(stack_of([old, new]) + [edits(1)])
        self.assertEqual(len(answer), 1 + 24 * (1 + 1 + 40 + 1 + 40))
        self.assertEqual(edits_after(stack_of([old, new]), 1), [
            ("del", path, old[path]) for path in old] + [("add", path, new[path]) for path in new])

    def test_a_change_that_is_not_there(self):
        calls = lay(stack_of(tower()), {"z": [9]})
        for i in (4, 5, 6) + NO_NUMBERS:
            self.leaves(calls, edits(i), [-1])
        for i in NO_NUMBERS:
            self.assertEqual(last(stack_of(SIX) + [edits(i)]), [-1])
        self.leaves([file("a", [1])], edits(1), [-1])
        self.leaves([file("a", [1]), BEGIN], edits(1), [-1])


class BothTest(StackCase):
    def test_the_paths_that_both_name(self):
        trees = [{"a": [1], "b": [1], "c": [1], "d": [1]}, {"a": [2], "b": [2], "c": [1], "d": [1]},
                 {"a": [2], "b": [3], "c": [3], "d": [1]}]
        calls = lay(stack_of(trees), {"z": [9]})
        self.leaves(calls, both(1, 2), [1, 1, 98])
        self.leaves(calls, both(2, 1), [1, 1, 98])

    def test_edits_of_each_kind(self):
        trees = [{"a": [1], "b/c": [1], "e": [1], "x": [1]}, {"b/c": [2], "d": [2], "e": [2], "x": [1]},
                 {"a": [3], "d": [4], "y": [1], "x": [1]}]
        calls = stack_of(trees)
        self.assertEqual(both_after(calls, 1, 2), ["a", "b/c", "d", "e"])
        self.assertEqual(both_after(calls, 2, 1), ["a", "b/c", "d", "e"])
        self.assertEqual(last(calls + [both(1, 2)]), [4, 1, 97, 3, 98, 47, 99, 1, 100, 1, 101])

    def test_the_order_of_paths_byte_by_byte(self):
        one = {path: [1] for path in ORDERED}
        two = {path: [2] for path in reversed(ORDERED)}
        for trees in ([one, two, {}], [one, two, one], [one, {}, two], [{}, one, {}], [{}, two, one]):
            self.assertEqual(both_after(stack_of(trees), 1, 2), ORDERED)
            self.assertEqual(both_after(stack_of(trees), 2, 1), ORDERED)

    def test_dels_hunks_and_adds_are_told_in_one_order(self):
        trees = [{"d": [1], "b": [1]}, {"b": [2], "a": [1], "c": [1]}, {"d": [2], "b": [1]}]
        self.assertEqual(both_after(stack_of(trees), 1, 2), ["a", "b", "c", "d"])
        self.assertEqual(both_after(stack_of(trees), 1, 1), ["a", "b", "c", "d"])

    def test_none(self):
        calls = stack_of(tower())
        for i, j in ((1, 2), (2, 1), (1, 3), (3, 2)):
            self.assertEqual(last(calls + [both(i, j)]), [0])
        # A file and one in a folder of that name are two paths.
        self.assertEqual(last(stack_of([{}, {"a": [1]}, {"a": [1], "ab": [1]}, {"ab": [1]},
                                        {"ab": [1], "a/b": [1]}]) + [both(1, 4)]), [0])

    def test_the_same_change(self):
        calls = lay(stack_of(tower()), {"z": [9]})
        self.leaves(calls, both(2, 2), [1, 1, 98])
        self.assertEqual(last(stack_of([{}, {"a": [1]}, {"a": [1]}]) + [both(2, 2)]), [0])

    def test_changes_with_others_between(self):
        self.assertEqual(both_after(stack_of(SIX), 1, 6), ["a"])
        self.assertEqual(both_after(stack_of(SIX), 6, 1), ["a"])

    def test_changes_that_are_not_there(self):
        calls = lay(stack_of(tower()), {"z": [9]})
        for i in (4, 5, 6) + NO_NUMBERS:
            self.leaves(calls, both(i, 1), [-1])
            self.leaves(calls, both(3, i), [-1])
            self.leaves(calls, both(i, i), [-1])
        for i in (7, 0, -1, MOST, -MOST):
            self.leaves(stack_of(SIX), both(6, i), [-1])
            self.leaves(stack_of(SIX), both(i, 6), [-1])
        self.leaves([file("a", [1])], both(1, 1), [-1])


class SizesTest(StackCase):
    def test_no_changes(self):
        self.leaves([], SIZES, [0])
        self.leaves([file("a", [1])], SIZES, [0])
        self.leaves([file("a", [1]), BEGIN], SIZES, [0])

    def test_from_the_lowest_up(self):
        trees = [{"a": [1], "b": [1]}, {"c": [1], "b": [2]}, {"c": [1], "b": [2]}, {"b": [2]},
                 {"b": [9], "e": [], "f": [], "g": []}]
        self.leaves(lay(stack_of(trees), {"z": [9]}), SIZES, [4, 3, 0, 1, 4])

    def test_six_changes(self):
        self.leaves(stack_of(SIX), SIZES, [6, 1, 1, 1, 1, 1, 1])
        trees = [{"f%d" % i: [] for i in range(size)} for size in (0, 6, 5, 9, 9, 12, 2)]
        self.leaves(stack_of(trees), SIZES, [6, 6, 1, 4, 0, 3, 10])

    def test_the_most_edits(self):
        old = {"f%d" % i: [] for i in range(12)}
        new = {"g%d" % i: [] for i in range(12)}
        self.assertEqual(last(stack_of([old, new, old]) + [SIZES]), [2, 24, 24])

    def test_as_many_as_edits_tells(self):
        calls = stack_of(tower())
        self.assertEqual(ask(calls + [SIZES, edits(1), edits(2), edits(3)])[-4:],
                         [[3, 1, 1, 1]] + [[1, 3, 1, 96 + i, 0, 1, 0, 1, i] for i in (1, 2, 3)])
