import unittest

from helper import (NONE, apply, back, base, begin, differ, history_of, load, merge, parents, patch, patch_of, put, save,
                    take_apart, text, whence)
from linesback.shelf import answers

CALLS = [
    differ(b"1\n2\n", b"2\n1\n"), patch(b"a\n", b"b"), apply(b"a\n", patch_of((0, 1, b"b"))), begin(0),
    back(b"a\n", patch_of((0, 1, b"b"))), merge(b"1\n", b"x\n", b"y\n"), merge(b"", b"", b""), begin(9),
    load(1, history_of((NONE, NONE, b"t"))), load(1, history_of() + b"?"), apply(b"", b"SWV"),
    differ(b"\n" * 2049, b""), load(4, b""), begin(3), differ(b"", b""),
]
HISTORY_CALLS = [
    begin(0), put(0, 0, 0, b"1\n"), put(0, 1, 0, b"1\n2"), put(0, 0, 0, b""), put(0, 3, 2, b"2"), text(0, 1), text(0, 2),
    parents(0, 3), base(0, 3, 0), base(0, 2, 0), whence(0, 3), whence(0, 2), save(0), text(0, 4), put(0, 1, 1, b""),
    put(0, 5, 0, b""), put(0, 0, 0, b"\n" * 2049), save(1), load(1, history_of((NONE, NONE, b"t"))), save(1),
]


class AnswersTest(unittest.TestCase):
    def test_the_empty_list(self):
        self.assertEqual(answers([]), [])

    def test_how_each_answer_stands(self):
        self.assertEqual(answers([0, 4, 49, 10, 50, 10, 4, 50, 10, 49, 10]),
                         [13, 2, 0, 8, 0, 1, 0, 0, 2, 0, 1, 1, 0, 0])
        self.assertEqual(answers([1, 0, 1, 97]),
                         [26, 21, 21, 0x53, 0x57, 0x56, 0x31, 1, 0, 0, 0,
                          0, 0, 0, 0, 0, 0, 0, 0, 1, 0, 0, 0, 97, 0, 0, 0])
        self.assertEqual(answers([2, 1, 97, 8, 0x53, 0x57, 0x56, 0x31, 0, 0, 0, 0]), [6, 1, 1, 97, 0, 0, 0])
        self.assertEqual(answers([3, 1, 97, 8, 0x53, 0x57, 0x56, 0x31, 0, 0, 0, 0]),
                         [13, 8, 8, 0x53, 0x57, 0x56, 0x31, 0, 0, 0, 0, 0, 0, 0])
        self.assertEqual(answers([4, 0, 1, 97, 1, 97]), [8, 1, 1, 97, 2, 0, 0, 0, 0])
        self.assertEqual(answers([5, 3]), [5, 0, 0, 0, 0, 0])
        self.assertEqual(answers([6, 0, 8, 0x53, 0x57, 0x56, 0x48, 0, 0, 0, 0]), [5, 0, 0, 0, 0, 0])

    def test_how_each_answer_of_a_history_stands(self):
        before = [5, 0] + [7, 0, 0, 0, 2, 49, 10] + [7, 0, 1, 0, 3, 49, 10, 50]
        told = [5, 0, 0, 0, 0, 0] + [5, 0, 0, 0, 0, 0] + [5, 1, 0, 0, 0, 0]
        self.assertEqual(answers(before), told)
        self.assertEqual(answers(before + [8, 0, 1]), told + [8, 3, 3, 49, 10, 50, 0, 0, 0])
        self.assertEqual(answers(before + [9, 0, 1]), told + [7, 0, 0, 2, 1, 0, 0, 0])
        self.assertEqual(answers(before + [10, 0, 1, 0]), told + [5, 0, 0, 0, 0, 0])
        self.assertEqual(answers(before + [10, 0, 1, 1]), told + [5, 1, 0, 0, 0, 0])
        self.assertEqual(answers(before + [11, 0, 1]), told + [7, 2, 0, 2, 0, 1, 0, 0])
        saved = [0x53, 0x57, 0x56, 0x48, 2, 0, 0, 0] + [255] * 8 + [2, 0, 0, 0, 49, 10]
        saved += [0] * 4 + [255] * 4 + [21, 0, 0, 0]
        saved += [0x53, 0x57, 0x56, 0x31, 1, 0, 0, 0] + [1, 0, 0, 0] + [0, 0, 0, 0] + [1, 0, 0, 0, 50]
        self.assertEqual(answers(before + [12, 0]), told + [len(saved) + 5, len(saved), len(saved)] + saved + [0, 0, 0])

    def test_how_a_refusal_of_a_history_stands(self):
        for call in ([7, 4, 0, 0, 0], [8, 4, 0], [9, 4, 0], [10, 4, 0, 0], [11, 4, 0], [12, 4]):
            self.assertEqual(answers(call), [5, -1, 0, 0, 0, 0])
        for call in ([7, 3, 0, 0, 0], [8, 3, 0], [9, 3, 0], [10, 3, 0, 0], [11, 3, 0], [12, 3]):
            self.assertEqual(answers(call), [5, -3, 0, 0, 0, 0])
        for call in ([7, 3, 1, 0, 0], [8, 3, 0], [9, 3, 0], [10, 3, 0, 0], [11, 3, 0]):
            self.assertEqual(answers([5, 3] + call), [5, 0, 0, 0, 0, 0] + [5, -4, 0, 0, 0, 0])

    def test_how_a_refusal_stands(self):
        self.assertEqual(answers([5, 4]), [5, -1, 0, 0, 0, 0])
        self.assertEqual(answers([0, 2049] + [10] * 2049 + [0]), [5, -2, 0, 0, 0, 0])
        self.assertEqual(answers([2, 0, 3, 0x53, 0x57, 0]), [5, -6, 0, 0, 2, 2])
        self.assertEqual(answers([3, 0, 2, 0x53, 0x57]), [5, -6, 0, 0, 1, 2])
        self.assertEqual(answers([6, 0, 9, 0x53, 0x57, 0x56, 0x48, 0, 0, 0, 0, 7]), [5, -6, 0, 0, 4, 8])

    def test_several_calls_are_answered_in_order(self):
        self.assertEqual(answers(sum(CALLS, [])), sum([answers(call) for call in CALLS], []))
        numbers = [answer.number for answer in take_apart(answers(sum(CALLS, [])))]
        self.assertEqual(numbers, [2, 21, 1, 0, 22, 28, 0, -1, 0, -6, -6, -2, -1, 0, 0])
        numbers = [answer.number for answer in take_apart(answers(sum(HISTORY_CALLS, [])))]
        self.assertEqual(numbers, [0, 0, 1, 2, 3, 3, 0, 0, 0, -3, 1, 0, 100, -4, -1, -4, -2, -3, 0, 21])

    def test_three_hundred_calls(self):
        self.assertEqual(answers([5, 0] * 300), [5, 0, 0, 0, 0, 0] * 300)

    def test_the_list_handed_in_is_unchanged(self):
        calls = sum(CALLS + HISTORY_CALLS, [])
        before = list(calls)
        answers(calls)
        self.assertEqual(calls, before)

    def test_the_list_handed_in_is_not_changed_for_a_while_either(self):
        class Watched(list):
            def refuse(self, *rest):
                raise AssertionError("the list is changed")

            __setitem__ = __delitem__ = __iadd__ = __imul__ = refuse
            append = extend = insert = pop = remove = clear = sort = reverse = refuse

        self.assertEqual(answers(Watched(sum(CALLS + HISTORY_CALLS, []))),
                         answers(sum(CALLS + HISTORY_CALLS, [])))

    def test_two_uses_answer_the_same(self):
        calls = sum(CALLS + HISTORY_CALLS, [])
        first = answers(calls)
        first_copy = list(first)
        self.assertEqual(answers(calls), first)
        first.clear()
        self.assertEqual(answers(calls), first_copy)


if __name__ == "__main__":
    unittest.main()
