"""Promises 4 and 5: begin, push, amend and rebase."""

import unittest

from tests.helper import (BEGIN, LIST, NO_NUMBERS, PUSH, REBASE, SIX, StackCase, amend, ask,
                          desk_after, drop, file, last, lay, stack_of, take, tower, trees_after)


class BeginTest(unittest.TestCase):
    def test_the_base_is_the_desk_and_there_are_no_changes(self):
        calls = [file("a", [1]), file("b", [2]), BEGIN]
        self.assertEqual(last(calls), [0, 0])
        self.assertEqual(trees_after(calls), [{"a": [1], "b": [2]}])
        self.assertEqual(desk_after(calls), {"a": [1], "b": [2]})

    def test_begin_in_the_beginning(self):
        self.assertEqual(trees_after([]), [{}])
        self.assertEqual(last([BEGIN]), [0, 0])
        self.assertEqual(trees_after([BEGIN]), [{}])

    def test_the_changes_of_the_old_stack_are_gone(self):
        calls = lay(stack_of(SIX), {"z": [9]}) + [BEGIN]
        self.assertEqual(last(calls), [0, 0])
        self.assertEqual(trees_after(calls), [{"z": [9]}])
        self.assertEqual(ask(calls + [PUSH])[-1], [0, 1])

    def test_the_base_stays_when_the_desk_changes(self):
        calls = [file("a", [1]), BEGIN, file("a", [2]), file("b", [3])]
        self.assertEqual(trees_after(calls), [{"a": [1]}])


class PushTest(unittest.TestCase):
    def test_one_change_more_on_the_top(self):
        calls = [file("a", [1]), BEGIN, file("b", [2]), PUSH, drop("a"), PUSH]
        self.assertEqual(ask(calls), [[1], [0, 0], [2], [0, 1], [1], [0, 2]])
        self.assertEqual(trees_after(calls), [{"a": [1]}, {"a": [1], "b": [2]}, {"b": [2]}])
        self.assertEqual(desk_after(calls), {"b": [2]})

    def test_a_change_that_changes_nothing(self):
        calls = [file("a", [1]), BEGIN, PUSH, PUSH]
        self.assertEqual(trees_after(calls), [{"a": [1]}] * 3)

    def test_six_changes_and_one_more(self):
        calls = []
        for i in range(6):
            calls = calls + [file("a", [i + 1]), PUSH]
            self.assertEqual(last(calls), [0, i + 1])
        calls = calls + [file("b", [7])]
        self.assertEqual(last(calls + [PUSH]), [-7])
        self.assertEqual(trees_after(calls + [PUSH]), [{}] + SIX[1:])
        self.assertEqual(desk_after(calls + [PUSH]), {"a": [6], "b": [7]})

    def test_without_begin_the_base_is_empty(self):
        self.assertEqual(trees_after([file("a", [1]), PUSH]), [{}, {"a": [1]}])

    def test_the_tree_behind_stays_when_the_desk_changes(self):
        calls = [file("a", [1]), PUSH, file("a", [2]), drop("a"), file("b", [3])]
        self.assertEqual(trees_after(calls), [{}, {"a": [1]}])


class AmendTest(StackCase):
    def test_the_lowest_and_all_above_are_carried_on(self):
        calls = lay(stack_of(tower()), {"a": [7], "b": [0], "c": [0], "e": [8]})
        self.makes(calls, amend(1), [
            {"a": [0], "b": [0], "c": [0], "d": [0]},
            {"a": [7], "b": [0], "c": [0], "e": [8]},
            {"a": [7], "b": [2], "c": [0], "e": [8]},
            {"a": [7], "b": [2], "c": [3], "e": [8]}])

    def test_one_in_the_middle_leaves_those_below(self):
        calls = lay(stack_of(tower()), {"a": [1], "b": [7], "c": [0], "d": [0]})
        self.makes(calls, amend(2), [
            {"a": [0], "b": [0], "c": [0], "d": [0]},
            {"a": [1], "b": [0], "c": [0], "d": [0]},
            {"a": [1], "b": [7], "c": [0], "d": [0]},
            {"a": [1], "b": [7], "c": [3], "d": [0]}])

    def test_the_topmost_has_nothing_above(self):
        calls = lay(stack_of(tower()), {"z": [1]})
        self.makes(calls, amend(3), tower()[:3] + [{"z": [1]}])
        six = lay(stack_of(SIX), {"z": [1]})
        self.makes(six, amend(6), SIX[:6] + [{"z": [1]}])

    def test_to_the_tree_that_it_leads_to_already(self):
        calls = stack_of(tower()) + [take(1)]
        self.makes(calls, amend(1), tower())

    def test_a_change_that_is_not_there(self):
        calls = lay(stack_of(tower()), {"z": [1]})
        for i in (4, 5, 6) + NO_NUMBERS:
            self.leaves(calls, amend(i), [-1])
        self.leaves([file("a", [1])], amend(1), [-1])
        self.leaves([file("a", [1]), BEGIN], amend(0), [-1])
        self.leaves(stack_of(SIX), amend(7), [-1])

    def test_the_amended_tree_stays_when_the_desk_changes(self):
        calls = lay(stack_of(tower()), {"z": [1]}) + [amend(3), file("z", [2]), file("y", [3])]
        self.assertEqual(trees_after(calls), tower()[:3] + [{"z": [1]}])

    def test_each_is_carried_onto_what_came_of_the_one_below(self):
        base = {"f": [1, 2, 3, 4, 5]}
        trees = [base, {"f": [1, 2, 3, 4, 6]}, {"f": [1, 2, 7, 4, 6]}, {"f": [8, 2, 7, 4, 6]}]
        calls = lay(stack_of(trees), {"f": [1, 2, 3, 4, 6, 9]})
        self.makes(calls, amend(1), [
            base, {"f": [1, 2, 3, 4, 6, 9]}, {"f": [1, 2, 7, 4, 6, 9]}, {"f": [8, 2, 7, 4, 6, 9]}])

    def test_stops_with_the_change_and_how_many_conflicts(self):
        trees = [{"f": [1, 2, 3], "g": [4]}, {"f": [1, 2, 3], "g": [5]},
                 {"f": [9, 2, 3], "g": [5]}, {"f": [9, 2, 8], "g": [6]}]
        calls = stack_of(trees)
        self.leaves(lay(calls, {"f": [7, 2, 3], "g": [5]}), amend(1), [1, 2, 1])
        self.leaves(lay(calls, {"f": [1, 2, 7], "g": [5]}), amend(1), [1, 3, 1])
        self.leaves(lay(calls, {"f": [1, 2, 7], "g": [7]}), amend(1), [1, 3, 2])
        self.leaves(lay(calls, {"f": [9, 2, 7], "g": [7]}), amend(2), [1, 3, 2])
        self.makes(lay(calls, {"f": [9, 2, 7], "g": [7]}), amend(3),
                   trees[:3] + [{"f": [9, 2, 7], "g": [7]}])

    def test_stops_where_a_path_is_a_folder_of_another(self):
        calls = lay(stack_of([{}, {"b": [1]}, {"b": [1], "a": [2]}]), {"a/c": [3]})
        self.leaves(calls, amend(1), [2, 2, 4])

    def test_stops_where_there_are_too_many_files(self):
        six = {"f%d" % i: [1] for i in range(6)}
        twelve = {"f%d" % i: [1] for i in range(12)}
        calls = lay(stack_of([{}, six, twelve]), {**six, "g": [2]})
        self.leaves(calls, amend(1), [2, 2, 5])

    def test_stops_where_a_file_has_too_many_lines(self):
        base = list(range(20))
        calls = stack_of([{}, {"f": base}, {"f": base + [50]}, {"f": base + [50] * 15}])
        self.makes(lay(calls, {"f": [60] * 5 + base}), amend(1), [
            {}, {"f": [60] * 5 + base}, {"f": [60] * 5 + base + [50]},
            {"f": [60] * 5 + base + [50] * 15}])
        self.leaves(lay(calls, {"f": [60] * 6 + base}), amend(1), [2, 3, 6])
        self.leaves(lay(calls, {"f": [60] * 19 + base}), amend(1), [2, 3, 6])
        self.leaves(lay(calls, {"f": [60] * 20 + base}), amend(1), [2, 2, 6])


class RebaseTest(unittest.TestCase):
    def test_all_changes_are_carried_on(self):
        calls = lay(stack_of(tower()), {"a": [0], "b": [0], "c": [0], "e": [8]}) + [REBASE]
        self.assertEqual(last(calls), [0, 3])
        self.assertEqual(trees_after(calls), [
            {"a": [0], "b": [0], "c": [0], "e": [8]},
            {"a": [1], "b": [0], "c": [0], "e": [8]},
            {"a": [1], "b": [2], "c": [0], "e": [8]},
            {"a": [1], "b": [2], "c": [3], "e": [8]}])
        self.assertEqual(desk_after(calls), {"a": [0], "b": [0], "c": [0], "e": [8]})

    def test_no_changes(self):
        self.assertEqual(ask([REBASE, file("a", [1]), REBASE, drop("a"), take(0), LIST]),
                         [[0, 0], [1], [0, 0], [0], [1], [1, 1, 97, 1]])

    def test_onto_the_top(self):
        calls = stack_of(tower()) + [REBASE]
        self.assertEqual(last(calls), [0, 3])
        self.assertEqual(trees_after(calls), [tower()[3]] * 4)

    def test_six_changes(self):
        trees = [{"a": [i], "b": [0]} for i in range(7)]
        calls = lay(stack_of(trees), {"a": [0], "b": [1]}) + [REBASE]
        self.assertEqual(last(calls), [0, 6])
        self.assertEqual(trees_after(calls), [{"a": [i], "b": [1]} for i in range(7)])

    def test_stops_at_the_first_change_that_cannot_be_carried(self):
        for tree, answer in (({"a": [5], "b": [5], "c": [0]}, [1, 1, 1]),
                             ({"a": [0], "b": [5], "c": [5]}, [1, 2, 1]),
                             ({"a": [0], "b": [0]}, [1, 3, 1])):
            calls = lay(stack_of(tower()), tree)
            self.assertEqual(last(calls + [REBASE]), answer)
            self.assertEqual(trees_after(calls + [REBASE]), tower())
            self.assertEqual(desk_after(calls + [REBASE]), tree)

    def test_the_base_stays_when_the_desk_changes(self):
        calls = [file("a", [1]), REBASE, file("a", [2]), drop("a")]
        self.assertEqual(trees_after(calls), [{"a": [1]}])
