"""The calls on a desk and a stack, and their answers."""

from changestacks.edits import ADD, DEL, HUNK, one_form, tree_with
from changestacks.merging import DONE, carry, carry_on
from changestacks.paths import is_path
from changestacks.reading import Reader
from changestacks.trees import MOST_FILES, are_lines, clashes_in, with_file, without_file

MOST_CHANGES = 6

# What a swap answers that would end in another tree.
OTHER_TREE = 3

# The refusals, without their sign.
NO_CHANGE = 1
NO_PATH = 2
NO_LINES = 3
CLASH = 4
DESK_FULL = 5
NO_FILE = 6
STACK_FULL = 7


# Behind each number of changes there is one tree in trees: the base is the
# first, and there is one more of them than changes.
class Work:
    def __init__(self):
        self.desk = {}
        self.trees = [{}]

    def changes(self):
        return len(self.trees) - 1

    def has_change(self, i):
        return 1 <= i <= self.changes()

    def has_two_changes(self, i):
        return self.has_change(i) and self.has_change(i + 1)

    def edits_of(self, i):
        return one_form(self.trees[i - 1], self.trees[i])

    def done_with(self, trees):
        self.trees = trees
        return [DONE, self.changes()]

    # These trees are the lower ones from now on, and the changes from number
    # first up follow on the last of them.
    def carry_on_behind(self, lower, first):
        stop, carried = carry_on(self.trees, first, lower[-1])
        if stop:
            return stop
        return self.done_with(lower + carried)


def refusal(number):
    return [-number]


def counted(numbers):
    return [len(numbers)] + list(numbers)


def call_file(work, reader):
    path = reader.take_row()
    lines = reader.take_row()
    if not is_path(path):
        return refusal(NO_PATH)
    if not are_lines(lines):
        return refusal(NO_LINES)
    if path not in work.desk:
        if clashes_in(work.desk, path):
            return refusal(CLASH)
        if len(work.desk) >= MOST_FILES:
            return refusal(DESK_FULL)
    work.desk = with_file(work.desk, path, lines)
    return [len(work.desk)]


def call_drop(work, reader):
    path = reader.take_row()
    if path not in work.desk:
        return refusal(NO_FILE)
    work.desk = without_file(work.desk, path)
    return [len(work.desk)]


def call_take(work, reader):
    i = reader.take_number()
    if i != 0 and not work.has_change(i):
        return refusal(NO_CHANGE)
    work.desk = work.trees[i]
    return [len(work.desk)]


def call_list(work, reader):
    answer = [len(work.desk)]
    for path in sorted(work.desk):
        answer.extend(counted(path))
        answer.append(len(work.desk[path]))
    return answer


def call_get(work, reader):
    path = reader.take_row()
    if path not in work.desk:
        return refusal(NO_FILE)
    return counted(work.desk[path])


def call_begin(work, reader):
    return work.done_with([work.desk])


def call_push(work, reader):
    if work.changes() >= MOST_CHANGES:
        return refusal(STACK_FULL)
    return work.done_with(work.trees + [work.desk])


def call_amend(work, reader):
    i = reader.take_number()
    if not work.has_change(i):
        return refusal(NO_CHANGE)
    return work.carry_on_behind(work.trees[:i] + [work.desk], i + 1)


def call_rebase(work, reader):
    return work.carry_on_behind([work.desk], 1)


def call_remove(work, reader):
    i = reader.take_number()
    if not work.has_change(i):
        return refusal(NO_CHANGE)
    return work.carry_on_behind(work.trees[:i], i + 1)


def call_fold(work, reader):
    i = reader.take_number()
    if not work.has_two_changes(i):
        return refusal(NO_CHANGE)
    return work.done_with(work.trees[:i] + work.trees[i + 1:])


def call_split(work, reader):
    i = reader.take_number()
    n = reader.take_number()
    if not work.has_change(i):
        return refusal(NO_CHANGE)
    edits = work.edits_of(i)
    if not 1 <= n < len(edits):
        return refusal(NO_CHANGE)
    if work.changes() >= MOST_CHANGES:
        return refusal(STACK_FULL)
    between = work.trees[i - 1]
    for edit in edits[:n]:
        between = tree_with(between, edit)
    return work.done_with(work.trees[:i] + [between] + work.trees[i:])


def call_swap(work, reader):
    i = reader.take_number()
    if not work.has_two_changes(i):
        return refusal(NO_CHANGE)
    stop, between = carry(work.trees, i + 1, work.trees[i - 1])
    if stop:
        return stop
    stop, above = carry(work.trees, i, between)
    if stop:
        return stop
    if above != work.trees[i + 1]:
        return [OTHER_TREE]
    return work.done_with(work.trees[:i] + [between] + work.trees[i + 1:])


def call_pick(work, reader):
    i = reader.take_number()
    if not work.has_change(i):
        return refusal(NO_CHANGE)
    stop, tree = carry(work.trees, i, work.trees[0])
    if stop:
        return stop
    work.desk = tree
    return [DONE]


def told(edit):
    answer = [edit.kind] + counted(edit.path)
    if edit.kind == HUNK:
        answer.append(edit.place)
    if edit.kind != ADD:
        answer.extend(counted(edit.old))
    if edit.kind != DEL:
        answer.extend(counted(edit.new))
    return answer


def call_edits(work, reader):
    i = reader.take_number()
    if not work.has_change(i):
        return refusal(NO_CHANGE)
    edits = work.edits_of(i)
    answer = [len(edits)]
    for edit in edits:
        answer.extend(told(edit))
    return answer


def call_both(work, reader):
    i = reader.take_number()
    j = reader.take_number()
    if not work.has_change(i) or not work.has_change(j):
        return refusal(NO_CHANGE)
    named = [edit.path for edit in work.edits_of(j)]
    paths = sorted([edit.path for edit in work.edits_of(i) if edit.path in named])
    answer = [len(paths)]
    for path in paths:
        answer.extend(counted(path))
    return answer


def call_sizes(work, reader):
    return counted([len(work.edits_of(i + 1)) for i in range(work.changes())])


# Each call stands at the place that is its number.
CALLS = (
    call_file,
    call_drop,
    call_take,
    call_list,
    call_get,
    call_begin,
    call_push,
    call_amend,
    call_rebase,
    call_remove,
    call_fold,
    call_split,
    call_swap,
    call_pick,
    call_edits,
    call_both,
    call_sizes,
)


def answers(calls):
    reader = Reader(calls)
    work = Work()
    answered = []
    while not reader.is_done():
        call = CALLS[reader.take_number()]
        answer = call(work, reader)
        answered.append(len(answer))
        answered.extend(answer)
    return answered
