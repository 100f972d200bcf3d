"""Trees, as dicts from a path to the tuple of its lines.

The desk and the stack share trees with one another, so none is changed once
it is made: what is to differ is a new dict.
"""

from changestacks.paths import do_clash, folders_of

MOST_FILES = 12
MOST_LINES = 40
GREATEST_LINE = 999999

PATH_IS_FOLDER = 4
TOO_MANY_FILES = 5
TOO_MANY_LINES = 6


def are_lines(lines):
    return len(lines) <= MOST_LINES and all([0 <= line <= GREATEST_LINE for line in lines])


def with_file(tree, path, lines):
    changed = without_file(tree, path)
    changed[path] = lines
    return changed


def without_file(tree, path):
    changed = {}
    for other in tree:
        if other != path:
            changed[other] = tree[other]
    return changed


def clashes_in(tree, path):
    return any([do_clash(path, other) for other in tree])


def has_folder_among(files):
    for path in files:
        if any([folder in files for folder in folders_of(path)]):
            return True
    return False


# 0 stands for no reason: the files are a tree.
def why_no_tree(files):
    if has_folder_among(files):
        return PATH_IS_FOLDER
    if len(files) > MOST_FILES:
        return TOO_MANY_FILES
    if any([len(files[path]) > MOST_LINES for path in files]):
        return TOO_MANY_LINES
    return 0
