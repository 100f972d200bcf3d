"""Merging three trees, and carrying changes on by it."""

from changestacks.regions import is_settled, merge_texts, settled
from changestacks.trees import why_no_tree

DONE = 0
CONFLICTS = 1
NO_TREE = 2


# Each file is its lines, or None where it isn't there. The answer is how many
# conflicts there are, and what the file comes to where there are none.
def fate(base, ours, theirs):
    if is_settled(base, ours, theirs):
        return (0, settled(base, ours, theirs))
    if base is None or ours is None or theirs is None:
        return (1, None)
    return merge_texts(base, ours, theirs)


# The answer is how the merge ended, and with it the tree, how many conflicts
# there were, or the reason for which it came to no tree.
def merge(base, ours, theirs):
    conflicts = 0
    files = {}
    for path in sorted(set(base) | set(ours) | set(theirs)):
        found, lines = fate(base.get(path), ours.get(path), theirs.get(path))
        conflicts += found
        if lines is not None:
            files[path] = lines
    if conflicts > 0:
        return (CONFLICTS, conflicts)
    reason = why_no_tree(files)
    if reason != 0:
        return (NO_TREE, reason)
    return (DONE, files)


# Trees are those behind 0, 1, .. changes. Answers where it stops (nothing, if
# it doesn't) and the tree that comes of it.
def carry(trees, number, onto):
    ending, found = merge(trees[number - 1], onto, trees[number])
    if ending != DONE:
        return ([ending, number, found], None)
    return ([], found)


# Carries the changes from number first up, each onto what came of the one
# below. Answers where it stops (nothing, if it doesn't) and the trees that come
# of it.
def carry_on(trees, first, onto):
    carried = []
    for number in range(first, len(trees)):
        stop, onto = carry(trees, number, onto)
        if stop:
            return (stop, [])
        carried.append(onto)
    return ([], carried)
