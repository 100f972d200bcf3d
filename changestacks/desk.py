"""The calls on a desk and a stack, and their answers."""

from changestacks.merging import DONE, carry_on
from changestacks.paths import is_path
from changestacks.reading import Reader
from changestacks.trees import MOST_FILES, are_lines, clashes_in, with_file, without_file

MOST_CHANGES = 6

# The refusals, without their sign.
NO_CHANGE = 1
NO_PATH = 2
NO_LINES = 3
CLASH = 4
DESK_FULL = 5
NO_FILE = 6
STACK_FULL = 7


# Behind each number of changes there is one tree in trees: the base is the
# first, and there is one more of them than changes.
class Work:
    def __init__(self):
        self.desk = {}
        self.trees = [{}]

    def changes(self):
        return len(self.trees) - 1

    def has_change(self, i):
        return 1 <= i <= self.changes()

    # The tree behind i changes becomes the desk's, and those above follow.
    def put_desk_behind(self, i):
        stop, carried = carry_on(self.trees, i + 1, self.desk)
        if stop:
            return stop
        self.trees = self.trees[:i] + [self.desk] + carried
        return [DONE, self.changes()]


def refusal(number):
    return [-number]


def call_file(work, reader):
    path = reader.take_row()
    lines = reader.take_row()
    if not is_path(path):
        return refusal(NO_PATH)
    if not are_lines(lines):
        return refusal(NO_LINES)
    if path not in work.desk:
        if clashes_in(work.desk, path):
            return refusal(CLASH)
        if len(work.desk) >= MOST_FILES:
            return refusal(DESK_FULL)
    work.desk = with_file(work.desk, path, lines)
    return [len(work.desk)]


def call_drop(work, reader):
    path = reader.take_row()
    if path not in work.desk:
        return refusal(NO_FILE)
    work.desk = without_file(work.desk, path)
    return [len(work.desk)]


def call_take(work, reader):
    i = reader.take_number()
    if i != 0 and not work.has_change(i):
        return refusal(NO_CHANGE)
    work.desk = work.trees[i]
    return [len(work.desk)]


def call_list(work, reader):
    answer = [len(work.desk)]
    for path in sorted(work.desk):
        answer.append(len(path))
        answer.extend(path)
        answer.append(len(work.desk[path]))
    return answer


def call_get(work, reader):
    path = reader.take_row()
    if path not in work.desk:
        return refusal(NO_FILE)
    lines = work.desk[path]
    return [len(lines)] + list(lines)


def call_begin(work, reader):
    work.trees = [work.desk]
    return [DONE, work.changes()]


def call_push(work, reader):
    if work.changes() >= MOST_CHANGES:
        return refusal(STACK_FULL)
    work.trees = work.trees + [work.desk]
    return [DONE, work.changes()]


def call_amend(work, reader):
    i = reader.take_number()
    if not work.has_change(i):
        return refusal(NO_CHANGE)
    return work.put_desk_behind(i)


def call_rebase(work, reader):
    return work.put_desk_behind(0)


# Each call stands at the place that is its number.
CALLS = (
    call_file,
    call_drop,
    call_take,
    call_list,
    call_get,
    call_begin,
    call_push,
    call_amend,
    call_rebase,
)


def answers(calls):
    reader = Reader(calls)
    work = Work()
    answered = []
    while not reader.is_done():
        call = CALLS[reader.take_number()]
        answer = call(work, reader)
        answered.append(len(answer))
        answered.extend(answer)
    return answered
