"""What the document promises over the whole program."""

from changestacks.desk import answers
from tests.helper import (BEGIN, LIST, MOST, PUSH, REBASE, SIZES, StackCase, amend, ask, both, drop,
                          edits, file, fold, get, lay, pick, remove, split, stack_of, swap, take)

# Each call, with answers of each kind among them.
EACH = [
    file("b", [1, 2, 3]), file("a/c", [4]), file("B"), file("b", [-1]), file("b/d"), LIST, get("b"), get("c"),
    BEGIN, file("b", [9, 2, 3]), PUSH, file("b", [9, 2, 8]), drop("a/c"), drop("a/c"), file("e"), PUSH,
    SIZES, edits(1), edits(2), both(1, 2), both(2, 3), split(2, 2), split(1, 1), swap(1), swap(3),
    pick(1), pick(3), take(1), file("b", [7, 2, 3]), amend(1), REBASE, remove(1), fold(1), remove(1),
    LIST, SIZES]

FAR = (MOST, -MOST, MOST - 1, 1 - MOST, 2 ** 63 - 1, 2 ** 63, -2 ** 63, 2 ** 32 + 1, -2 ** 32 + 1)


def flat(calls):
    return [number for call in calls for number in call]


class WholeTest(StackCase):
    def test_each_call_on_one_object(self):
        self.assertEqual(ask(EACH), [
            [1], [2], [-2], [-3], [-4],
            [2, 3, 97, 47, 99, 1, 1, 98, 3], [3, 1, 2, 3], [-6],
            [0, 0], [2], [0, 1], [2], [1], [-6], [2], [0, 2],
            [2, 1, 3],
            [1, 3, 1, 98, 0, 1, 1, 1, 9],
            [3, 1, 3, 97, 47, 99, 1, 4, 3, 1, 98, 2, 1, 3, 1, 8, 0, 1, 101, 0],
            [1, 1, 98], [-1],
            [0, 3], [-1], [0, 3], [-1],
            [0], [0], [1], [1],
            [1, 2, 1], [1, 2, 1], [0, 2], [0, 1], [0, 0],
            [1, 1, 98, 3], [0]])

    def test_how_many_numbers_come_ahead_of_each_answer(self):
        self.assertEqual(
            answers(flat([file("a", [5]), PUSH, edits(1), SIZES, both(1, 1), pick(1), split(1, 1)])),
            [1, 1, 2, 0, 1, 6, 1, 0, 1, 97, 1, 5, 2, 1, 1, 3, 1, 1, 97, 1, 0, 1, -1])

    def test_what_is_handed_in_is_not_changed(self):
        for size in range(1, len(EACH) + 1):
            handed = flat(EACH[:size])
            copy = list(handed)
            answers(handed)
            self.assertEqual(handed, copy)

    def test_what_is_given_back_is_a_new_list_of_whole_numbers(self):
        handed = flat(EACH)
        first = answers(handed)
        self.assertIs(type(first), list)
        self.assertEqual({type(number) for number in first}, {int})
        second = answers(handed)
        self.assertEqual(first, second)
        self.assertIsNot(first, second)
        first.clear()
        self.assertEqual(answers(handed), second)

    def test_one_list_of_calls_leaves_nothing_behind_for_the_next(self):
        fresh = [LIST, SIZES, take(0), LIST, take(1), edits(1), remove(1), pick(1), get("b"), drop("e")]
        awaited = [[0], [0], [0], [0], [-1], [-1], [-1], [-1], [-6], [-6]]
        self.assertEqual(ask(fresh), awaited)
        whole = ask(EACH)
        for size in range(1, len(EACH) + 1):
            self.assertEqual(ask(EACH[:size]), whole[:size])
            self.assertEqual(ask(fresh), awaited)

    def test_numbers_far_outside_the_range(self):
        calls = lay(stack_of([{"a": [1], "b": [1]}, {"a": [2], "b": [2]}, {"c": [2], "b": [2]}]), {"z": [9]})
        for far in FAR:
            for call in (take(far), amend(far), remove(far), fold(far), split(far, 1), split(1, far),
                         split(far, far), swap(far), pick(far), edits(far), both(far, 1), both(1, far),
                         both(far, far)):
                self.leaves(calls, call, [-1])
            self.leaves(calls, file("z", [far]), [-3])
            self.leaves(calls, file("z", [1] * 59 + [far]), [-3])

    def test_a_refusal_reads_its_own_numbers_alone(self):
        for call in (take(7), amend(7), remove(7), fold(7), split(7, 5), swap(7), pick(7), edits(7),
                     both(7, 5), both(5, 7)):
            self.assertEqual(ask([call, LIST, call, SIZES]), [[-1], [0], [-1], [0]])

    def test_the_stack_leaves_the_desk_and_the_desk_the_stack(self):
        trees = [{"a": [1], "b": [1]}, {"a": [2], "b": [1]}, {"a": [2], "b": [2], "c": []}]
        calls = lay(stack_of(trees), {"z": [9]})
        for deed in (remove(1), remove(2), fold(1), split(2, 1), swap(1)):
            self.assertEqual(ask(calls + [deed, LIST, get("z")])[-2:], [[1, 1, 122, 1], [1, 9]])
        self.assertEqual(ask(calls + [pick(2), SIZES, edits(2)])[-2:], ask(calls + [SIZES, edits(2)])[-2:])

    def test_four_hundred_calls(self):
        calls = [file("a", [1, 2]), PUSH, file("a", [3, 2]), file("b"), PUSH]
        rest = [edits(1), swap(1), swap(2), split(2, 1), fold(2)] * 79
        self.assertEqual(len(calls + rest), 400)
        self.assertEqual(ask(calls + rest)[5:], [
            [1, 0, 1, 97, 2, 1, 2], [1, 2, 1], [-1], [0, 3], [0, 2]] * 79)

    def test_seventeen_thousand_numbers(self):
        calls = [file(chr(97 + i % 12), [i] * 40) for i in range(386)]
        self.assertEqual(len(flat(calls)), 16984)
        self.assertEqual(ask(calls)[-1], [12])
