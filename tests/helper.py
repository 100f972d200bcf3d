"""Calls as lists of numbers, and answers taken apart call by call."""

import unittest

from changestacks.desk import answers

MOST = 10 ** 18


def row(numbers):
    numbers = list(numbers)
    return [len(numbers)] + numbers


def path_row(path):
    return row(path.encode("ascii") if isinstance(path, str) else path)


def file(path, lines=()):
    return [0] + path_row(path) + row(lines)


def drop(path):
    return [1] + path_row(path)


def take(i):
    return [2, i]


LIST = [3]


def get(path):
    return [4] + path_row(path)


BEGIN = [5]
PUSH = [6]


def amend(i):
    return [7, i]


REBASE = [8]


def remove(i):
    return [9, i]


def fold(i):
    return [10, i]


def split(i, n):
    return [11, i, n]


def swap(i):
    return [12, i]


def pick(i):
    return [13, i]


def edits(i):
    return [14, i]


def both(i, j):
    return [15, i, j]


SIZES = [16]


def ask(calls):
    """The answers, one list a call; calls is a list of calls."""
    handed = [number for call in calls for number in call]
    before = list(handed)
    answered = answers(handed)
    if handed != before:
        raise AssertionError("what was handed in has been changed")
    if any(type(number) is not int for number in answered):
        raise AssertionError("not a list of whole numbers")
    parts = []
    at = 0
    while at < len(answered):
        parts.append(answered[at + 1:at + 1 + answered[at]])
        at += 1 + answered[at]
    if at != len(answered) or len(parts) != len(calls):
        raise AssertionError("not as many answers as calls")
    return parts


def last(calls):
    return ask(calls)[-1]


def put_tree(tree):
    """Calls that make the desk this tree, whatever stack there is."""
    return [file(path, tree[path]) for path in tree]


def clear_desk(calls):
    """Calls that drop each file that is on the desk after these calls."""
    return [drop(path) for path in desk_after(calls)]


def lay(calls, tree):
    """These calls, then others that make the desk this tree."""
    calls = calls + clear_desk(calls)
    return calls + put_tree(tree)


def desk_after(calls):
    """The desk after these calls, as list and get tell it."""
    listed = last(calls + [LIST])
    tree = {}
    at = 1
    for count in range(listed[0]):
        size = listed[at]
        path = bytes(listed[at + 1:at + 1 + size]).decode("ascii")
        got = last(calls + [get(path)])
        if got[0] != len(got) - 1 or got[0] != listed[at + 1 + size]:
            raise AssertionError("list and get tell different things")
        tree[path] = got[1:]
        at += size + 2
    if at != len(listed):
        raise AssertionError("list tells more or less than its files")
    return tree


def stack_of(trees):
    """Calls for a stack with the first tree as its base, a change to each next."""
    calls = lay([], trees[0]) + [BEGIN]
    for tree in trees[1:]:
        calls = lay(calls, tree) + [PUSH]
    return calls


def trees_after(calls):
    """The trees behind 0, 1, .. changes after these calls, as take tells them."""
    trees = []
    while last(calls + [take(len(trees))]) != [-1]:
        trees.append(desk_after(calls + [take(len(trees))]))
    return trees


def merged(base, ours, theirs):
    """What comes of carrying the change from base to theirs onto ours: its
    answer, then the tree, or None where it stops and nothing is changed."""
    calls = lay(stack_of([base, theirs]), ours)
    answer = last(calls + [REBASE])
    trees = trees_after(calls + [REBASE])
    if desk_after(calls + [REBASE]) != ours:
        raise AssertionError("rebase has changed the desk")
    if answer == [0, 1]:
        if trees[0] != ours or len(trees) != 2:
            raise AssertionError("the base isn't the desk")
        return answer, trees[1]
    if trees != [base, theirs]:
        raise AssertionError("a deed that stopped has changed the stack")
    return answer, None


def merged_lines(base, ours, theirs):
    """The same for one file: the lines, or how many conflicts there were."""
    answer, tree = merged({"f": base}, {"f": ours}, {"f": theirs})
    if tree is not None:
        return tree["f"]
    if answer[:2] != [1, 1]:
        raise AssertionError("stopped by something else than conflicts")
    return answer[2]


class Numbers:
    """An answer, taken number by number."""

    def __init__(self, answer):
        self.rest = list(answer)

    def one(self):
        return self.rest.pop(0)

    def row(self):
        return [self.one() for count in range(self.one())]

    def path(self):
        return bytes(self.row()).decode("ascii")


def edits_after(calls, i):
    """The edits of change i after these calls: each a tuple of its kind, its
    path, the place if it's a hunk, and its lines."""
    numbers = Numbers(last(calls + [edits(i)]))
    told = []
    for count in range(numbers.one()):
        kind = {0: "add", 1: "del", 3: "hunk"}[numbers.one()]
        edit = (kind, numbers.path())
        if kind == "hunk":
            edit += (numbers.one(), numbers.row())
        told.append(edit + (numbers.row(),))
    if numbers.rest:
        raise AssertionError("more numbers than edits")
    return told


def both_after(calls, i, j):
    """The paths that both tells of changes i and j after these calls."""
    numbers = Numbers(last(calls + [both(i, j)]))
    paths = [numbers.path() for count in range(numbers.one())]
    if numbers.rest:
        raise AssertionError("more numbers than paths")
    return paths


def tower():
    """Each change touches a file of its own; the base has them all."""
    trees = [{name: [0] for name in "abcd"}]
    for number, name in enumerate("abc"):
        tree = dict(trees[-1])
        tree[name] = [number + 1]
        trees.append(tree)
    return trees


SIX = [{"a": [i]} for i in range(7)]

# What can't be a change's number, whatever stack there is.
NO_NUMBERS = (0, -1, -2, -3, -6, 7, 8, 13, 2 ** 31, 2 ** 63, -2 ** 63, MOST - 1, MOST, 1 - MOST, -MOST)


class StackCase(unittest.TestCase):
    def leaves(self, calls, call, answer):
        """The call is answered so, and nothing is changed."""
        self.assertEqual(last(calls + [call]), answer)
        self.assertEqual(trees_after(calls + [call]), trees_after(calls))
        self.assertEqual(desk_after(calls + [call]), desk_after(calls))

    def makes(self, calls, deed, trees):
        """The deed is done, these trees come of it, and the desk is as it was."""
        self.assertEqual(last(calls + [deed]), [0, len(trees) - 1])
        self.assertEqual(trees_after(calls + [deed]), trees)
        self.assertEqual(desk_after(calls + [deed]), desk_after(calls))
