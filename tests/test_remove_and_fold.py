"""Promises 6 and 7: remove and fold."""

from tests.helper import (BEGIN, NO_NUMBERS, PUSH, SIX, StackCase, ask, edits_after, file, fold, lay,
                          remove, stack_of, tower, trees_after)


class RemoveTest(StackCase):
    def test_the_lowest_and_all_above_are_carried_on(self):
        self.makes(lay(stack_of(tower()), {"z": [9]}), remove(1), [
            {"a": [0], "b": [0], "c": [0], "d": [0]},
            {"a": [0], "b": [2], "c": [0], "d": [0]},
            {"a": [0], "b": [2], "c": [3], "d": [0]}])

    def test_one_in_the_middle_leaves_those_below(self):
        self.makes(lay(stack_of(tower()), {"z": [9]}), remove(2), [
            {"a": [0], "b": [0], "c": [0], "d": [0]},
            {"a": [1], "b": [0], "c": [0], "d": [0]},
            {"a": [1], "b": [0], "c": [3], "d": [0]}])

    def test_the_topmost_change(self):
        self.makes(lay(stack_of(tower()), {"z": [9]}), remove(3), tower()[:3])
        self.makes(stack_of(SIX), remove(6), SIX[:6])

    def test_the_only_change(self):
        self.makes([file("a", [1]), BEGIN, file("a", [2]), PUSH], remove(1), [{"a": [1]}])
        self.makes([file("a", [1]), PUSH], remove(1), [{}])
        self.assertEqual(ask([PUSH, remove(1), remove(1)])[1:], [[0, 0], [-1]])

    def test_the_numbers_of_those_above_are_less_by_one(self):
        calls = stack_of(tower()) + [remove(1)]
        self.assertEqual(edits_after(calls, 1), [("hunk", "b", 0, [0], [2])])
        self.assertEqual(edits_after(calls, 2), [("hunk", "c", 0, [0], [3])])
        self.makes(calls, remove(1), [tower()[0], {"a": [0], "b": [0], "c": [3], "d": [0]}])

    def test_a_change_without_edits(self):
        trees = tower()
        self.makes(stack_of(trees[:2] + trees[1:]), remove(2), trees)

    def test_what_it_did_in_the_same_file_is_undone(self):
        trees = [{"f": [1, 2, 3, 4, 5]}, {"f": [9, 2, 3, 4, 5]}, {"f": [9, 2, 8, 4, 5]},
                 {"f": [9, 2, 8, 4, 5, 7, 6]}]
        self.makes(stack_of(trees), remove(1), [
            {"f": [1, 2, 3, 4, 5]}, {"f": [1, 2, 8, 4, 5]}, {"f": [1, 2, 8, 4, 5, 7, 6]}])
        self.makes(stack_of(trees), remove(2), [
            {"f": [1, 2, 3, 4, 5]}, {"f": [9, 2, 3, 4, 5]}, {"f": [9, 2, 3, 4, 5, 7, 6]}])

    def test_a_file_that_it_added_or_deleted(self):
        trees = [{"a": [1]}, {"a": [1], "b": [2]}, {"a": [3], "b": [2]}]
        self.makes(stack_of(trees), remove(1), [{"a": [1]}, {"a": [3]}])
        trees = [{"a": [1], "b": [2]}, {"a": [1]}, {"a": [3]}]
        self.makes(stack_of(trees), remove(1), [{"a": [1], "b": [2]}, {"a": [3], "b": [2]}])

    def test_a_change_that_did_the_same_again_has_no_edits_then(self):
        trees = [{"f": [1]}, {"f": [2]}, {"f": [1]}, {"f": [2], "g": [3]}]
        self.makes(stack_of(trees), remove(1), [{"f": [1]}, {"f": [1]}, {"f": [2], "g": [3]}])

    def test_stops_with_the_old_number_and_how_many_conflicts(self):
        trees = [{"f": [1], "g": [1], "h": [1]}, {"f": [2], "g": [2], "h": [1]},
                 {"f": [2], "g": [2], "h": [2]}, {"f": [3], "g": [3], "h": [2]}]
        calls = lay(stack_of(trees), {"z": [9]})
        self.leaves(calls, remove(1), [1, 3, 2])
        self.makes(calls, remove(2), trees[:2] + [{"f": [3], "g": [3], "h": [1]}])
        self.leaves(calls + [remove(2)], remove(1), [1, 2, 2])
        self.leaves(stack_of(SIX), remove(1), [1, 2, 1])
        self.leaves(stack_of(SIX), remove(5), [1, 6, 1])

    def test_stops_where_a_path_is_a_folder_of_another(self):
        trees = [{"a": [1]}, {}, {"b": [2]}, {"a/c": [1], "b": [2]}]
        self.leaves(lay(stack_of(trees), {"z": [9]}), remove(1), [2, 3, 4])
        self.leaves(stack_of([trees[0], trees[1], trees[3]]), remove(1), [2, 2, 4])

    def test_stops_where_there_are_too_many_files(self):
        twelve = {"f%d" % i: [1] for i in range(12)}
        eleven = {"f%d" % i: [1] for i in range(11)}
        calls = lay(stack_of([twelve, eleven, {**eleven, "g": [1]}]), {"z": [9]})
        self.leaves(calls, remove(1), [2, 2, 5])

    def test_stops_where_a_file_has_too_many_lines(self):
        forty = list(range(40))
        trees = [{"f": forty}, {"f": forty[10:]}, {"f": forty[10:], "g": [1]},
                 {"f": forty[10:] + [50], "g": [1]}]
        calls = lay(stack_of(trees), {"z": [9]})
        self.leaves(calls, remove(1), [2, 3, 6])
        self.makes(calls, remove(2), trees[:2] + [{"f": forty[10:] + [50]}])

    def test_a_change_that_is_not_there(self):
        calls = lay(stack_of(tower()), {"z": [9]})
        for i in (4, 5, 6) + NO_NUMBERS:
            self.leaves(calls, remove(i), [-1])
        for i in NO_NUMBERS:
            self.leaves(stack_of(SIX), remove(i), [-1])
        for i in (1, 2) + NO_NUMBERS:
            self.leaves([file("a", [1])], remove(i), [-1])

    def test_makes_place_for_one_more(self):
        calls = stack_of(SIX) + [remove(6), PUSH, PUSH]
        self.assertEqual(ask(calls)[-3:], [[0, 5], [0, 6], [-7]])


class FoldTest(StackCase):
    def test_the_tree_between_is_not_in_the_stack_any_more(self):
        trees = tower()
        calls = lay(stack_of(trees), {"z": [9]})
        self.makes(calls, fold(1), [trees[0], trees[2], trees[3]])
        self.makes(calls, fold(2), [trees[0], trees[1], trees[3]])
        self.makes(calls + [fold(2)], fold(1), [trees[0], trees[3]])
        for i in range(1, 6):
            self.makes(stack_of(SIX), fold(i), SIX[:i] + SIX[i + 1:])

    def test_the_one_has_the_edits_of_both(self):
        self.assertEqual(edits_after(stack_of(tower()) + [fold(1)], 1),
                         [("hunk", "a", 0, [0], [1]), ("hunk", "b", 0, [0], [2])])
        self.assertEqual(edits_after(stack_of(tower()) + [fold(1)], 2),
                         [("hunk", "c", 0, [0], [3])])

    def test_a_change_and_what_undoes_it(self):
        calls = stack_of([{"a": [1]}, {"a": [2]}, {"a": [1]}])
        self.makes(calls, fold(1), [{"a": [1]}, {"a": [1]}])
        self.assertEqual(edits_after(calls + [fold(1)], 1), [])

    def test_no_change_i_or_no_change_above_it(self):
        calls = lay(stack_of(tower()), {"z": [9]})
        for i in (3, 4, 5, 6) + NO_NUMBERS:
            self.leaves(calls, fold(i), [-1])
        for i in (6,) + NO_NUMBERS:
            self.leaves(stack_of(SIX), fold(i), [-1])
        for i in (1, 2) + NO_NUMBERS:
            self.leaves(stack_of(tower()[:2]), fold(i), [-1])
            self.leaves([file("a", [1])], fold(i), [-1])

    def test_makes_place_for_one_more(self):
        calls = lay(stack_of(SIX), {"z": [9]}) + [fold(3), PUSH, PUSH]
        self.assertEqual(ask(calls)[-3:], [[0, 5], [0, 6], [-7]])
        self.assertEqual(trees_after(calls), SIX[:3] + SIX[4:] + [{"z": [9]}])
