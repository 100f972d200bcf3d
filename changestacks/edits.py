"""Edits, and the one form of a change from one tree to another."""

from changestacks.texts import stretch_with
from changestacks.trees import with_file, without_file

ADD = 0
DEL = 1
HUNK = 3


# At the place of the path's file the old lines become the new ones. An add
# has no old lines, a del no new ones.
class Edit:
    def __init__(self, kind, path, place, old, new):
        self.kind = kind
        self.path = path
        self.place = place
        self.old = old
        self.new = new


def alike_from_the_beginning(lines, others):
    count = 0
    while count < min(len(lines), len(others)) and lines[count] == others[count]:
        count += 1
    return count


# Only what lies behind the lines alike from the beginning is looked at from
# the end, so that no line counts as alike from both.
def hunk_between(path, old, new):
    place = alike_from_the_beginning(old, new)
    old = old[place:]
    new = new[place:]
    left_out = alike_from_the_beginning(old[::-1], new[::-1])
    return Edit(HUNK, path, place, old[:len(old) - left_out], new[:len(new) - left_out])


def one_form(before, after):
    edits = [Edit(DEL, path, 0, before[path], ()) for path in sorted(before) if path not in after]
    for path in sorted(before):
        if path in after and before[path] != after[path]:
            edits.append(hunk_between(path, before[path], after[path]))
    edits.extend([Edit(ADD, path, 0, (), after[path]) for path in sorted(after) if path not in before])
    return edits


def tree_with(tree, edit):
    if edit.kind == ADD:
        return with_file(tree, edit.path, edit.new)
    if edit.kind == DEL:
        return without_file(tree, edit.path)
    lines = tree[edit.path]
    hunk = (edit.place, edit.old, edit.new)
    return with_file(tree, edit.path, stretch_with(lines, 0, len(lines), [hunk]))
