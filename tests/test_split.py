"""Promise 8: split."""

from tests.helper import (BEGIN, MOST, NO_NUMBERS, PUSH, SIX, StackCase, ask, edits_after, file, fold,
                          lay, last, split, stack_of, take, tower, trees_after)

BEFORE = {"d1": [1, 2], "d2": [], "h1": [1, 2, 3, 4, 5], "h2": [7], "same": [6]}
AFTER = {"a1": [8, 9], "a2": [], "h1": [1, 9, 3, 8, 5], "h2": [7, 7], "same": [6]}

# The trees behind the first 1, 2, .. of the six edits from BEFORE to AFTER.
BETWEEN = [
    {"d2": [], "h1": [1, 2, 3, 4, 5], "h2": [7], "same": [6]},
    {"h1": [1, 2, 3, 4, 5], "h2": [7], "same": [6]},
    {"h1": [1, 9, 3, 8, 5], "h2": [7], "same": [6]},
    {"h1": [1, 9, 3, 8, 5], "h2": [7, 7], "same": [6]},
    {"a1": [8, 9], "h1": [1, 9, 3, 8, 5], "h2": [7, 7], "same": [6]}]

# What n may be for no change at all.
NEVER = (0, -1, -2, -6, -2 ** 63, 1 - MOST, -MOST, 25, 2 ** 63, MOST - 1, MOST)


class SplitTest(StackCase):
    def test_each_kind_of_edit_as_the_last_one_done_and_the_first_one_left(self):
        calls = lay(stack_of([BEFORE, AFTER]), {"z": [9]})
        told = edits_after(calls, 1)
        self.assertEqual([edit[:2] for edit in told], [
            ("del", "d1"), ("del", "d2"), ("hunk", "h1"), ("hunk", "h2"), ("add", "a1"), ("add", "a2")])
        for n, tree in enumerate(BETWEEN, start=1):
            self.makes(calls, split(1, n), [BEFORE, tree, AFTER])
            self.assertEqual(edits_after(calls + [split(1, n)], 1), told[:n])
            self.assertEqual(edits_after(calls + [split(1, n)], 2), told[n:])

    def test_the_changes_below_and_above_stay(self):
        trees = [{"x": [1]}, BEFORE, AFTER, {"y": [2]}]
        calls = lay(stack_of(trees), {"z": [9]})
        self.makes(calls, split(2, 3), trees[:2] + [BETWEEN[2]] + trees[2:])

    def test_the_lowest_and_the_topmost_change(self):
        trees = [{}, {"a": [1], "b": [2]}, {"c": [3]}]
        calls = stack_of(trees)
        self.makes(calls, split(1, 1), [{}, {"a": [1]}] + trees[1:])
        self.makes(calls, split(2, 1), trees[:2] + [{"b": [2]}] + trees[2:])
        self.makes(calls, split(2, 2), trees[:2] + [{}] + trees[2:])

    def test_a_file_that_makes_room_for_a_folder(self):
        calls = stack_of([{"a": [1]}, {"a/b": [1]}])
        self.makes(calls, split(1, 1), [{"a": [1]}, {}, {"a/b": [1]}])

    def test_twelve_files_that_go_and_twelve_that_come(self):
        old = {"f%d" % i: [i] for i in range(12)}
        new = {"g%d" % i: [i] for i in range(12)}
        calls = stack_of([old, new])
        self.makes(calls, split(1, 12), [old, {}, new])
        self.makes(calls, split(1, 1), [old, {path: old[path] for path in old if path != "f0"}, new])
        self.makes(calls, split(1, 23), [old, {path: new[path] for path in new if path != "g9"}, new])
        self.leaves(calls, split(1, 24), [-1])

    def test_hunks_at_the_beginning_and_the_end_of_files(self):
        old = {"a": [1, 2, 3], "b": [1, 2, 3], "c": [], "d": [4], "e": [1, 1]}
        new = {"a": [9, 2, 3], "b": [1, 2, 3, 9], "c": [5], "d": [], "e": [1, 1, 1]}
        calls = stack_of([old, new])
        for n, path in enumerate("abcd", start=1):
            tree = {other: (new if other <= path else old)[other] for other in old}
            self.makes(calls, split(1, n), [old, tree, new])

    def test_folded_again_it_is_as_it_was(self):
        calls = stack_of([{"x": [1]}, BEFORE, AFTER, {"y": [2]}])
        for n in range(1, 6):
            self.assertEqual(trees_after(calls + [split(2, n), fold(2)]), trees_after(calls))

    def test_split_up_to_six_changes(self):
        calls = stack_of([BEFORE, AFTER]) + [split(i, 1) for i in range(1, 6)]
        self.assertEqual(last(calls), [0, 6])
        self.assertEqual(trees_after(calls), [BEFORE] + BETWEEN + [AFTER])

    def test_a_change_that_is_not_there(self):
        calls = lay(stack_of([BEFORE, AFTER, BEFORE]), {"z": [9]})
        for i in (3, 4, 5, 6) + NO_NUMBERS:
            for n in (1, 2) + NEVER[:2] + NEVER[-1:]:
                self.leaves(calls, split(i, n), [-1])
        self.leaves([file("a"), file("b")], split(1, 1), [-1])
        self.leaves([file("a"), file("b"), BEGIN], split(1, 1), [-1])

    def test_n_below_1_or_not_more_than_n_edits(self):
        calls = lay(stack_of([{}, BEFORE, AFTER]), {"z": [9]})
        for n in (6, 7, 8, 12) + NEVER:
            self.leaves(calls, split(2, n), [-1])
        for n in (5, 6) + NEVER:
            self.leaves(calls, split(1, n), [-1])

    def test_one_edit_or_none_cannot_be_split(self):
        calls = stack_of([{"a": [1, 2, 3]}, {"a": [4, 2, 5]}, {"a": [4, 2, 5]}, {}, {"a": []}])
        for i in (1, 2, 3, 4):
            for n in (1, 2) + NEVER:
                self.leaves(calls, split(i, n), [-1])

    def test_six_changes(self):
        trees = [BEFORE, AFTER] * 3 + [BEFORE]
        calls = lay(stack_of(trees), {"z": [9]})
        for i in (1, 4, 6):
            for n in (1, 5):
                self.leaves(calls, split(i, n), [-7])
        self.makes(stack_of(trees[:6]), split(1, 1), [BEFORE, BETWEEN[0]] + trees[1:6])

    def test_on_a_full_stack_too_n_is_looked_at_first(self):
        calls = lay(stack_of([BEFORE, AFTER] * 3 + [BEFORE]), {"z": [9]})
        for n in (6, 7) + NEVER:
            self.leaves(calls, split(1, n), [-1])
        for i in NO_NUMBERS:
            self.leaves(calls, split(i, 1), [-1])
        for n in (1, 2) + NEVER:
            self.leaves(stack_of(SIX), split(3, n), [-1])

    def test_the_tree_between_stays_when_the_desk_changes(self):
        calls = stack_of([{}, {"a": [1], "b": [2]}]) + [split(1, 1), take(1), file("a", [7]), file("c")]
        self.assertEqual(trees_after(calls), [{}, {"a": [1]}, {"a": [1], "b": [2]}])

    def test_there_is_one_change_more(self):
        trees = tower()
        calls = stack_of([trees[0], trees[2], trees[3]]) + [split(1, 1)]
        self.assertEqual(trees_after(calls), trees)
        self.assertEqual(ask(calls + [PUSH])[-2:], [[0, 3], [0, 4]])
