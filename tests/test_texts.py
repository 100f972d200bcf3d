"""Kept lines and hunks, on which merging rests (promise 5)."""

import itertools
import unittest

from changestacks.texts import hunks_between, kept_counts


def slow_count(old, new):
    """As many lines as can be kept, by trying each choice of old lines."""
    for size in range(len(old), 0, -1):
        for kept in itertools.combinations(old, size):
            rest = iter(new)
            if all(line in rest for line in kept):
                return size
    return 0


def slow_hunks(old, new):
    """The hunks as the document tells them, step by step on the ends."""
    hunks = [[0, (), ()]]
    place = 0
    while old or new:
        if old and new and old[0] == new[0]:
            place += 1
            old, new = old[1:], new[1:]
            hunks.append([place, (), ()])
        elif not new or old and slow_count(old[1:], new) == slow_count(old, new):
            place += 1
            hunks[-1][1] += old[:1]
            old = old[1:]
        else:
            hunks[-1][2] += new[:1]
            new = new[1:]
    return [tuple(hunk) for hunk in hunks if hunk[1] or hunk[2]]


class HunksTest(unittest.TestCase):
    def test_none_between_texts_that_are_alike(self):
        self.assertEqual(hunks_between((), ()), [])
        self.assertEqual(hunks_between((1, 2, 2), (1, 2, 2)), [])

    def test_one_text_empty(self):
        self.assertEqual(hunks_between((), (1, 2)), [(0, (), (1, 2))])
        self.assertEqual(hunks_between((1, 2), ()), [(0, (1, 2), ())])

    def test_places_old_lines_and_new_lines(self):
        self.assertEqual(hunks_between((1, 2, 3, 4, 5), (9, 2, 3, 8, 7, 5, 6)),
                         [(0, (1,), (9,)), (3, (4,), (8, 7)), (5, (), (6,))])
        self.assertEqual(hunks_between((1, 2, 3), (4, 5)), [(0, (1, 2, 3), (4, 5))])

    def test_old_lines_go_first_where_it_makes_no_difference(self):
        self.assertEqual(hunks_between((1, 2), (2, 1)), [(0, (1,), ()), (2, (), (1,))])
        self.assertEqual(hunks_between((1, 2, 3), (3, 1, 2)), [(0, (), (3,)), (2, (3,), ())])

    def test_the_first_line_that_can_be_is_kept(self):
        self.assertEqual(hunks_between((1, 3), (2, 3, 3)), [(0, (1,), (2,)), (2, (), (3,))])
        self.assertEqual(hunks_between((3, 3, 1), (2, 3)), [(0, (3,), (2,)), (2, (1,), ())])

    def test_all_short_texts(self):
        texts = [text for size in range(5) for text in itertools.product((1, 2, 3), repeat=size)]
        for old in texts:
            for new in texts:
                self.assertEqual(hunks_between(old, new), slow_hunks(old, new), (old, new))
                self.assertEqual(kept_counts(old, new)[0][0], slow_count(old, new))

    def test_forty_lines(self):
        self.assertEqual(hunks_between(tuple(range(40)), tuple(range(39, -1, -1))),
                         [(0, tuple(range(39)), ()), (40, (), tuple(range(38, -1, -1)))])
