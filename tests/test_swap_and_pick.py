"""Promises 9 and 10: swap and pick."""

from tests.helper import (NO_NUMBERS, PUSH, SIX, StackCase, ask, desk_after, drop, edits_after, file,
                          last, lay, pick, stack_of, swap, tower, trees_after)

TWELVE = {"f%d" % i: [1] for i in range(12)}
ELEVEN = {"f%d" % i: [1] for i in range(11)}
FORTY = list(range(40))


class SwapTest(StackCase):
    def test_two_that_do_not_touch_one_another(self):
        trees = tower()
        calls = lay(stack_of(trees), {"z": [9]})
        self.makes(calls, swap(1), [
            trees[0], {"a": [0], "b": [2], "c": [0], "d": [0]}, trees[2], trees[3]])
        self.makes(calls, swap(2), [
            trees[0], trees[1], {"a": [1], "b": [0], "c": [3], "d": [0]}, trees[3]])

    def test_their_edits_are_changed_for_one_another(self):
        calls = stack_of(tower())
        first, second = edits_after(calls, 1), edits_after(calls, 2)
        self.assertEqual(edits_after(calls + [swap(1)], 1), second)
        self.assertEqual(edits_after(calls + [swap(1)], 2), first)
        self.assertEqual(trees_after(calls + [swap(1), swap(1)]), tower())

    def test_the_topmost_two_of_six(self):
        trees = [{"a": [i]} for i in range(5)] + [{"a": [4], "b": [1]}, {"a": [5], "b": [1]}]
        self.makes(stack_of(trees), swap(5), trees[:5] + [{"a": [5]}] + trees[6:])

    def test_hunks_of_one_file(self):
        trees = [{"f": [1, 2, 3, 4]}, {"f": [9, 8, 2, 3, 4]}, {"f": [9, 8, 2, 3]}]
        self.makes(stack_of(trees), swap(1), [trees[0], {"f": [1, 2, 3]}, trees[2]])

    def test_files_that_come_and_go(self):
        trees = [{"a": [1]}, {}, {"b": []}]
        self.makes(stack_of(trees), swap(1), [trees[0], {"a": [1], "b": []}, trees[2]])
        trees = [{"b": []}, {"a": [1], "b": []}, {"a": [1]}]
        self.makes(stack_of(trees), swap(1), [trees[0], {}, trees[2]])

    def test_changes_without_edits(self):
        self.makes(stack_of([{"a": [1]}] * 3), swap(1), [{"a": [1]}] * 3)
        trees = [{"a": [1]}, {"a": [1]}, {"a": [2]}]
        self.makes(stack_of(trees), swap(1), [{"a": [1]}, {"a": [2]}, {"a": [2]}])
        self.makes(stack_of([{"a": [1]}, {"a": [2]}, {"a": [2]}]), swap(1), trees)

    def test_stops_at_the_upper_with_conflicts(self):
        self.leaves(lay(stack_of(tower()[:2] + [{"a": [5], "b": [0]}]), {"z": [9]}), swap(1), [1, 2, 1])
        trees = [{"x": [1]}, {"f": [1, 2, 3], "g": []}, {"f": [4, 2, 5], "g": [1]},
                 {"f": [6, 2, 7], "g": [2]}]
        self.leaves(lay(stack_of(trees), {"z": [9]}), swap(2), [1, 3, 3])
        self.leaves(stack_of(trees), swap(1), [1, 2, 2])
        for i in range(1, 6):
            self.leaves(stack_of(SIX), swap(i), [1, i + 1, 1])

    def test_stops_at_the_lower_with_conflicts(self):
        # Carried down, the upper one adds its line 1 behind line 2; there the
        # lower one, carried onto that, adds its line 2.
        trees = [{"f": [1, 2]}, {"f": [2, 2]}, {"f": [1, 2, 1]}]
        self.leaves(lay(stack_of(trees), {"z": [9]}), swap(1), [1, 1, 1])
        self.leaves(lay(stack_of([{"x": [1]}] + trees), {"z": [9]}), swap(2), [1, 2, 1])
        twice = [{"f": tree["f"], "g": tree["f"]} for tree in trees]
        self.leaves(stack_of(twice), swap(1), [1, 1, 2])

    def test_the_upper_comes_to_no_tree(self):
        trees = [{"x": [1]}, {"a": [1]}, {}, {"a/c": [1]}]
        self.leaves(lay(stack_of(trees), {"z": [9]}), swap(2), [2, 3, 4])
        self.leaves(stack_of(trees[1:]), swap(1), [2, 2, 4])
        self.leaves(stack_of([TWELVE, ELEVEN, {**ELEVEN, "g": []}]), swap(1), [2, 2, 5])
        trees = [{"f": FORTY}, {"f": FORTY[1:]}, {"f": FORTY[1:] + [50]}]
        self.leaves(stack_of(trees), swap(1), [2, 2, 6])

    def test_the_lower_comes_to_no_tree(self):
        trees = [{"x": [1]}, {}, {"a": [1]}, {"a/c": [1]}]
        self.leaves(lay(stack_of(trees), {"z": [9]}), swap(2), [2, 2, 4])
        self.leaves(stack_of(trees[1:]), swap(1), [2, 1, 4])
        self.leaves(stack_of([ELEVEN, TWELVE, {**ELEVEN, "g": []}]), swap(1), [2, 1, 5])
        trees = [{"f": FORTY[1:]}, {"f": FORTY}, {"f": FORTY[1:] + [50]}]
        self.leaves(stack_of(trees), swap(1), [2, 1, 6])

    def test_another_tree_comes_of_it(self):
        for trees in ([{"a": [1]}, {"a": [2]}, {"a": [1]}],
                      [{}, {"a": [1]}, {}],
                      [{"a": [1]}, {}, {"a": [1]}],
                      [{"a": [1], "b": [1]}, {"a": [2], "b": [2]}, {"a": [1], "b": [2]}]):
            self.leaves(lay(stack_of(trees), {"z": [9]}), swap(1), [3])
        trees = [{"a": [1]}, {"a": [1], "b": [1]}, {"a": [1]}, {"a": [2]}]
        self.leaves(lay(stack_of([{}] + trees), {"z": [9]}), swap(2), [3])
        self.makes(stack_of([{}] + trees), swap(3), [{}] + trees[:2] + [{"a": [2], "b": [1]}, {"a": [2]}])

    def test_no_change_i_or_no_change_above_it(self):
        calls = lay(stack_of(tower()), {"z": [9]})
        for i in (3, 4, 5, 6) + NO_NUMBERS:
            self.leaves(calls, swap(i), [-1])
        for i in (6,) + NO_NUMBERS:
            self.leaves(stack_of(SIX), swap(i), [-1])
        for i in (1, 2) + NO_NUMBERS:
            self.leaves(stack_of(tower()[:2]), swap(i), [-1])
            self.leaves([file("a", [1])], swap(i), [-1])


class PickTest(StackCase):
    def picks(self, calls, i, tree):
        """The desk becomes this tree, and the stack is as it was."""
        self.assertEqual(last(calls + [pick(i)]), [0])
        self.assertEqual(desk_after(calls + [pick(i)]), tree)
        self.assertEqual(trees_after(calls + [pick(i)]), trees_after(calls))

    def test_one_alone_onto_the_base(self):
        calls = lay(stack_of(tower()), {"z": [9]})
        self.picks(calls, 1, {"a": [1], "b": [0], "c": [0], "d": [0]})
        self.picks(calls, 2, {"a": [0], "b": [2], "c": [0], "d": [0]})
        self.picks(calls, 3, {"a": [0], "b": [0], "c": [3], "d": [0]})

    def test_the_lowest_leads_where_it_led(self):
        trees = [{"a": [1], "b": [1, 2]}, {"c": [], "b": [3, 2]}, {}]
        self.picks(stack_of(trees), 1, trees[1])
        self.picks(stack_of([{}, {}]), 1, {})

    def test_the_files_of_the_base_that_are_gone_above_are_there(self):
        trees = [{"a": [1], "f": [1, 2, 3]}, {"f": [9, 2, 3]}, {"f": [9, 2, 4], "b": []}]
        self.picks(lay(stack_of(trees), {"z": [9]}), 2, {"a": [1], "b": [], "f": [1, 2, 4]})

    def test_a_change_that_undoes_another_or_nothing(self):
        trees = [{"a": [1]}, {"a": [2]}, {"a": [1]}, {"a": [1]}]
        self.picks(lay(stack_of(trees), {"z": [9]}), 2, {"a": [1]})
        self.picks(lay(stack_of(trees), {"z": [9]}), 3, {"a": [1]})

    def test_the_sixth_of_six(self):
        trees = SIX[:6] + [{"a": [5], "b": [7]}]
        self.picks(stack_of(trees), 6, {"a": [0], "b": [7]})

    def test_conflicts(self):
        for i in range(2, 7):
            self.leaves(lay(stack_of(SIX), {"z": [9]}), pick(i), [1, i, 1])
        trees = [{"f": [1, 2, 3], "g": [1]}, {"f": [4, 2, 5]}, {"f": [6, 2, 7]}, {"f": [8, 2, 9], "g": [3]}]
        self.leaves(lay(stack_of(trees), {"z": [9]}), pick(2), [1, 2, 2])
        self.leaves(lay(stack_of(trees), {"z": [9]}), pick(3), [1, 3, 3])

    def test_no_tree(self):
        trees = [{"a": [1]}, {}, {"a/c": [1]}]
        self.leaves(lay(stack_of(trees), {"z": [9]}), pick(2), [2, 2, 4])
        trees = [TWELVE, ELEVEN, ELEVEN, {**ELEVEN, "g": []}]
        self.leaves(lay(stack_of(trees), {"z": [9]}), pick(3), [2, 3, 5])
        trees = [{"f": FORTY}, {"f": FORTY[1:]}, {"f": FORTY[1:] + [50]}]
        self.leaves(lay(stack_of(trees), {"z": [9]}), pick(2), [2, 2, 6])

    def test_a_change_that_is_not_there(self):
        calls = lay(stack_of(tower()), {"z": [9]})
        for i in (4, 5, 6) + NO_NUMBERS:
            self.leaves(calls, pick(i), [-1])
        for i in NO_NUMBERS:
            self.leaves(stack_of(SIX), pick(i), [-1])
        self.leaves([file("a", [1])], pick(1), [-1])

    def test_the_stack_stays_when_the_desk_changes_then(self):
        calls = stack_of(tower()) + [pick(1), file("a", [7]), drop("b"), file("e", [])]
        self.assertEqual(trees_after(calls), tower())
        self.assertEqual(ask(calls + [PUSH])[-1], [0, 4])
