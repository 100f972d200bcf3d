"""Calls as lists of numbers, and answers taken apart call by call."""

from changestacks.desk import answers

MOST = 10 ** 18


def row(numbers):
    numbers = list(numbers)
    return [len(numbers)] + numbers


def path_row(path):
    return row(path.encode("ascii") if isinstance(path, str) else path)


def file(path, lines=()):
    return [0] + path_row(path) + row(lines)


def drop(path):
    return [1] + path_row(path)


def take(i):
    return [2, i]


LIST = [3]


def get(path):
    return [4] + path_row(path)


BEGIN = [5]
PUSH = [6]


def amend(i):
    return [7, i]


REBASE = [8]


def ask(calls):
    """The answers, one list a call; calls is a list of calls."""
    handed = [number for call in calls for number in call]
    before = list(handed)
    answered = answers(handed)
    if handed != before:
        raise AssertionError("what was handed in has been changed")
    if any(type(number) is not int for number in answered):
        raise AssertionError("not a list of whole numbers")
    parts = []
    at = 0
    while at < len(answered):
        parts.append(answered[at + 1:at + 1 + answered[at]])
        at += 1 + answered[at]
    if at != len(answered) or len(parts) != len(calls):
        raise AssertionError("not as many answers as calls")
    return parts


def last(calls):
    return ask(calls)[-1]


def put_tree(tree):
    """Calls that make the desk this tree, whatever stack there is."""
    return [file(path, tree[path]) for path in tree]


def clear_desk(calls):
    """Calls that drop each file that is on the desk after these calls."""
    return [drop(path) for path in desk_after(calls)]


def lay(calls, tree):
    """These calls, then others that make the desk this tree."""
    calls = calls + clear_desk(calls)
    return calls + put_tree(tree)


def desk_after(calls):
    """The desk after these calls, as list and get tell it."""
    listed = last(calls + [LIST])
    tree = {}
    at = 1
    for count in range(listed[0]):
        size = listed[at]
        path = bytes(listed[at + 1:at + 1 + size]).decode("ascii")
        got = last(calls + [get(path)])
        if got[0] != len(got) - 1 or got[0] != listed[at + 1 + size]:
            raise AssertionError("list and get tell different things")
        tree[path] = got[1:]
        at += size + 2
    if at != len(listed):
        raise AssertionError("list tells more or less than its files")
    return tree


def stack_of(trees):
    """Calls for a stack with the first tree as its base, a change to each next."""
    calls = lay([], trees[0]) + [BEGIN]
    for tree in trees[1:]:
        calls = lay(calls, tree) + [PUSH]
    return calls


def trees_after(calls):
    """The trees behind 0, 1, .. changes after these calls, as take tells them."""
    trees = []
    while last(calls + [take(len(trees))]) != [-1]:
        trees.append(desk_after(calls + [take(len(trees))]))
    return trees


def merged(base, ours, theirs):
    """What comes of carrying the change from base to theirs onto ours: its
    answer, then the tree, or None where it stops and nothing is changed."""
    calls = lay(stack_of([base, theirs]), ours)
    answer = last(calls + [REBASE])
    trees = trees_after(calls + [REBASE])
    if desk_after(calls + [REBASE]) != ours:
        raise AssertionError("rebase has changed the desk")
    if answer == [0, 1]:
        if trees[0] != ours or len(trees) != 2:
            raise AssertionError("the base isn't the desk")
        return answer, trees[1]
    if trees != [base, theirs]:
        raise AssertionError("a deed that stopped has changed the stack")
    return answer, None


def merged_lines(base, ours, theirs):
    """The same for one file: the lines, or how many conflicts there were."""
    answer, tree = merged({"f": base}, {"f": ours}, {"f": theirs})
    if tree is not None:
        return tree["f"]
    if answer[:2] != [1, 1]:
        raise AssertionError("stopped by something else than conflicts")
    return answer[2]
