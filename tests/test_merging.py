"""The merging that amend and rebase rest on (promise 5)."""

import unittest

from tests.helper import merged, merged_lines


class FateTest(unittest.TestCase):
    """Each fate of a path, with a file x beside that is in all three trees."""

    def fate(self, base, ours, theirs):
        trees = []
        for lines in (base, ours, theirs):
            trees.append({"x": [1]} if lines is None else {"f": lines, "x": [1]})
        answer, tree = merged(*trees)
        if tree is None:
            return answer
        self.assertEqual(tree["x"], [1])
        return tree.get("f")

    def test_both_alike(self):
        self.assertEqual(self.fate([1], [2], [2]), [2])
        self.assertEqual(self.fate(None, [2], [2]), [2])
        self.assertEqual(self.fate(None, [], []), [])
        self.assertIsNone(self.fate([1], None, None))

    def test_ours_alone(self):
        self.assertEqual(self.fate([1], [2], [1]), [2])
        self.assertEqual(self.fate(None, [2], None), [2])
        self.assertIsNone(self.fate([1], None, [1]))

    def test_theirs_alone(self):
        self.assertEqual(self.fate([1], [1], [2]), [2])
        self.assertEqual(self.fate(None, None, [2]), [2])
        self.assertEqual(self.fate(None, None, []), [])
        self.assertIsNone(self.fate([1], [1], None))

    def test_both_added_it_unlike(self):
        self.assertEqual(self.fate(None, [1], [2]), [1, 1, 1])
        self.assertEqual(self.fate(None, [], [2]), [1, 1, 1])
        self.assertEqual(self.fate(None, [1, 5, 2], [3, 5, 4]), [1, 1, 1])

    def test_one_deleted_it_and_the_other_changed_it(self):
        self.assertEqual(self.fate([1], None, [2]), [1, 1, 1])
        self.assertEqual(self.fate([1], [2], None), [1, 1, 1])
        self.assertEqual(self.fate([1, 5, 2], None, [3, 5, 4]), [1, 1, 1])
        self.assertEqual(self.fate([1], [], None), [1, 1, 1])

    def test_both_changed_it(self):
        self.assertEqual(self.fate([1, 2, 3], [4, 2, 3], [1, 2, 5]), [4, 2, 5])
        self.assertEqual(self.fate([1, 2, 3], [4, 2, 3], [5, 2, 3]), [1, 1, 1])


class TextTest(unittest.TestCase):
    """One file that is in all three trees; a number is how many conflicts."""

    def test_hunks_apart(self):
        self.assertEqual(merged_lines([1, 2, 3, 4], [9, 2, 3, 4], [1, 2, 3]), [9, 2, 3])
        self.assertEqual(merged_lines([1, 2, 3], [1, 2, 3, 7, 8], [6, 1, 2, 3]), [6, 1, 2, 3, 7, 8])
        self.assertEqual(merged_lines([1, 2, 3, 4, 5], [1, 9, 3, 4, 5], [1, 2, 3, 8]), [1, 9, 3, 8])
        self.assertEqual(merged_lines([1, 2, 3, 4, 5], [9, 2, 8, 4, 7], [1, 6, 3, 4, 5]), 1)
        self.assertEqual(
            merged_lines([1, 2, 3, 4, 5, 6, 7], [1, 9, 3, 4, 5, 8, 7], [0, 2, 3, 5, 6, 7]), 1)
        self.assertEqual(
            merged_lines([1, 2, 3, 4, 5, 6, 7], [1, 2, 9, 4, 5, 6, 8], [0, 2, 3, 4, 6, 7]),
            [0, 2, 9, 4, 6, 8])

    def test_hunks_that_just_touch_are_one_cluster(self):
        self.assertEqual(merged_lines([1, 2], [9, 2], [1, 8]), 1)
        self.assertEqual(merged_lines([1, 2], [1, 8], [9, 2]), 1)
        self.assertEqual(merged_lines([1, 2, 3], [2, 3], [1, 3]), 1)
        self.assertEqual(merged_lines([1, 2], [9, 2], [1, 7, 2]), 1)
        self.assertEqual(merged_lines([1, 2], [1, 7, 2], [1, 9]), 1)
        self.assertEqual(merged_lines([1, 2], [1, 7, 2], [9, 2]), 1)
        self.assertEqual(merged_lines([1, 2, 3], [9, 2, 3], [1, 2, 7, 3]), [9, 2, 7, 3])
        self.assertEqual(merged_lines([1, 2, 3], [9, 2, 3], [1, 2, 8]), [9, 2, 8])

    def test_at_the_same_place(self):
        self.assertEqual(merged_lines([], [1], [2]), 1)
        self.assertEqual(merged_lines([1], [1, 2], [1, 3]), 1)
        self.assertEqual(merged_lines([1], [2, 1], [3, 1]), 1)
        self.assertEqual(merged_lines([1, 2], [3, 1, 2], [4, 2]), 1)
        self.assertEqual(merged_lines([1, 2], [4, 2], [3, 1, 2]), 1)

    def test_both_changed_a_region_alike(self):
        self.assertEqual(merged_lines([1, 2, 3], [9, 2, 3], [9, 2, 8]), [9, 2, 8])
        self.assertEqual(merged_lines([1, 2, 3], [9, 2, 8], [9, 2, 3]), [9, 2, 8])
        self.assertEqual(merged_lines([1, 2, 3], [1, 2, 3, 4], [7, 2, 3, 4]), [7, 2, 3, 4])
        self.assertEqual(merged_lines([1, 2, 3, 4, 5], [1, 3, 4, 5, 6], [1, 3, 4]), 1)
        self.assertEqual(merged_lines([1, 2, 3, 4, 5], [1, 3, 4, 5, 6], [0, 1, 3, 4, 5]),
                         [0, 1, 3, 4, 5, 6])

    def test_a_cluster_of_several_hunks_is_one_conflict(self):
        base = [1, 2, 3, 4, 5, 6]
        self.assertEqual(merged_lines(base, [9, 2, 8, 4, 5, 6], [1, 5, 6]), 1)
        self.assertEqual(merged_lines(base, [1, 6], [1, 7, 3, 8, 5, 6]), 1)
        self.assertEqual(merged_lines(base, [1, 9, 5, 6], [1, 2, 3, 7, 6]), 1)

    def test_the_stretch_of_a_cluster_goes_to_its_farthest_end(self):
        base = [1, 2, 3, 4, 5, 6]
        # Ours' one long hunk ends behind theirs' first one, and reaches theirs' second.
        self.assertEqual(merged_lines(base, [9, 5, 6], [8, 2, 3, 7, 5, 6]), 1)
        self.assertEqual(merged_lines(base, [8, 2, 3, 7, 5, 6], [9, 5, 6]), 1)
        self.assertEqual(merged_lines(base, [9, 5, 6], [8, 2, 3, 4, 5, 7]), 1)
        self.assertEqual(merged_lines(base, [9, 4, 5, 6], [8, 2, 3, 4, 7, 6]), 1)

    def test_each_conflict_of_a_file_counts(self):
        self.assertEqual(merged_lines([1, 2, 3], [4, 2, 5], [6, 2, 7]), 2)
        self.assertEqual(merged_lines([1, 2, 3, 4, 5], [6, 2, 7, 4, 8], [9, 2, 10, 4, 11]), 3)
        self.assertEqual(merged_lines([1, 2, 3, 4, 5], [6, 2, 7, 4, 8], [9, 2, 7, 4, 11]), 2)
        self.assertEqual(merged_lines([1, 2, 3, 4, 5], [6, 2, 7, 4, 5], [9, 2, 3, 4, 11]), 1)

    def test_which_ties_in_kept_lines_are_taken(self):
        # Taken otherwise, each of these is told the other way round.
        self.assertEqual(merged_lines([1, 2], [2, 1], [2]), [2, 1])
        self.assertEqual(merged_lines([1, 2], [2, 1], [1]), 1)
        self.assertEqual(merged_lines([1, 1], [2, 1], [1, 1, 9]), [2, 1, 9])
        self.assertEqual(merged_lines([1, 1], [2, 1], [1]), 1)
        self.assertEqual(merged_lines([1, 2], [2, 2], [2]), [2, 2])
        self.assertEqual(merged_lines([1, 2], [2, 2], [1, 2, 9]), 1)
        # The line kept is the first that can be, not the last.
        self.assertEqual(merged_lines([1, 3], [2, 3, 3], [1, 3, 9]), 1)
        self.assertEqual(merged_lines([1, 3], [2, 3, 3], [8, 3]), 1)
        self.assertEqual(merged_lines([1, 3, 4], [2, 3, 3, 4], [1, 3]), 1)

    def test_forty_lines_come_of_it(self):
        base = list(range(30))
        self.assertEqual(merged_lines(base, [50] * 5 + base, base + [60] * 5),
                         [50] * 5 + base + [60] * 5)


class TreeTest(unittest.TestCase):
    def test_conflicts_of_several_paths_are_counted_together(self):
        base = {"a": [1, 2, 3], "b": [1], "c": [1], "e": [1]}
        ours = {"a": [4, 2, 5], "b": [2], "d": [1], "e": [2]}
        theirs = {"a": [6, 2, 7], "c": [3], "d": [2], "e": [1]}
        self.assertEqual(merged(base, ours, theirs), ([1, 1, 5], None))

    def test_conflicts_come_ahead_of_reasons(self):
        self.assertEqual(merged({"x": [1]}, {"x": [2], "a": []}, {"x": [3], "a/b": []}),
                         ([1, 1, 1], None))

    def test_a_folder_of_another(self):
        self.assertEqual(merged({}, {"a": []}, {"a/b": []}), ([2, 1, 4], None))
        self.assertEqual(merged({}, {"a/b/c/d": [1]}, {"a": [1]}), ([2, 1, 4], None))
        self.assertEqual(merged({}, {"a": [], "a.b": []}, {"a/b/c": [], "a-b": []}),
                         ([2, 1, 4], None))

    def test_a_folder_that_a_side_made_of_a_file(self):
        self.assertEqual(merged({"a": [1]}, {"a": [1], "x": []}, {"a/b": [1]}),
                         ([0, 1], {"a/b": [1], "x": []}))
        self.assertEqual(merged({"a": [1]}, {"a": [2]}, {"a/b": [1]}), ([1, 1, 1], None))
        self.assertEqual(merged({"a": [1]}, {}, {"a": [1], "ab": [1]}), ([0, 1], {"ab": [1]}))

    def test_paths_that_begin_alike_are_no_folders(self):
        self.assertEqual(merged({}, {"a": [1], "b/c": [2]}, {"ab": [3], "b/cd": [4]}),
                         ([0, 1], {"a": [1], "ab": [3], "b/c": [2], "b/cd": [4]}))

    def test_twelve_files_and_one_more(self):
        seven = {"a%d" % i: [i] for i in range(7)}
        five = {"b%d" % i: [i] for i in range(5)}
        self.assertEqual(merged({}, seven, five), ([0, 1], {**seven, **five}))
        self.assertEqual(merged({}, seven, {**five, "c": []}), ([2, 1, 5], None))

    def test_forty_lines_and_one_more(self):
        base = {"a": list(range(20)), "b": [1]}
        ours = {"a": [50] * 10 + list(range(20)), "b": [1]}
        theirs = {"a": list(range(20)) + [50] * 10, "b": [1]}
        self.assertEqual(merged(base, ours, theirs)[0], [0, 1])
        theirs["a"] = theirs["a"] + [50]
        self.assertEqual(merged(base, ours, theirs), ([2, 1, 6], None))

    def test_the_first_reason_that_fits(self):
        long = list(range(30))
        seven = {"a%d" % i: [i] for i in range(7)}
        five = {"b%d" % i: [i] for i in range(5)}
        base = {"f": long}
        ours = {"f": [50] * 6 + long}
        theirs = {"f": long + [50] * 5}
        self.assertEqual(merged(base, ours, theirs), ([2, 1, 6], None))
        self.assertEqual(merged(base, {**ours, **seven}, {**theirs, **five}), ([2, 1, 5], None))
        self.assertEqual(merged(base, {**ours, **seven}, {**theirs, **five, "a0/b": []}),
                         ([2, 1, 4], None))
        self.assertEqual(merged(base, {**ours, "a": []}, {**theirs, "a/b": []}),
                         ([2, 1, 4], None))
        self.assertEqual(merged({}, seven, {**five, "a0/b": []}), ([2, 1, 4], None))

    def test_files_that_only_one_side_has_come_along(self):
        self.assertEqual(
            merged({"a": [1], "b": [1], "c": [1, 2, 3]},
                   {"a": [1], "c": [1, 2, 4], "d": [5]},
                   {"a": [2], "b": [1], "c": [6, 2, 3], "e": []}),
            ([0, 1], {"a": [2], "c": [6, 2, 4], "d": [5], "e": []}))
