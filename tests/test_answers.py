import unittest

from helper import NONE, apply, back, begin, differ, history_of, load, merge, patch, patch_of, take_apart
from linesback.shelf import answers

CALLS = [
    differ(b"1\n2\n", b"2\n1\n"), patch(b"a\n", b"b"), apply(b"a\n", patch_of((0, 1, b"b"))), begin(0),
    back(b"a\n", patch_of((0, 1, b"b"))), merge(b"1\n", b"x\n", b"y\n"), merge(b"", b"", b""), begin(9),
    load(1, history_of((NONE, NONE, b"t"))), load(1, history_of() + b"?"), apply(b"", b"SWV"),
    differ(b"\n" * 2049, b""), load(4, b""), begin(3), differ(b"", b""),
]


class AnswersTest(unittest.TestCase):
    def test_the_empty_list(self):
        self.assertEqual(answers([]), [])

    def test_how_each_answer_stands(self):
        self.assertEqual(answers([0, 4, 49, 10, 50, 10, 4, 50, 10, 49, 10]),
                         [13, 2, 0, 8, 0, 1, 0, 0, 2, 0, 1, 1, 0, 0])
        self.assertEqual(answers([1, 0, 1, 97]),
                         [26, 21, 21, 0x53, 0x57, 0x56, 0x31, 1, 0, 0, 0,
                          0, 0, 0, 0, 0, 0, 0, 0, 1, 0, 0, 0, 97, 0, 0, 0])
        self.assertEqual(answers([2, 1, 97, 8, 0x53, 0x57, 0x56, 0x31, 0, 0, 0, 0]), [6, 1, 1, 97, 0, 0, 0])
        self.assertEqual(answers([3, 1, 97, 8, 0x53, 0x57, 0x56, 0x31, 0, 0, 0, 0]),
                         [13, 8, 8, 0x53, 0x57, 0x56, 0x31, 0, 0, 0, 0, 0, 0, 0])
        self.assertEqual(answers([4, 0, 1, 97, 1, 97]), [8, 1, 1, 97, 2, 0, 0, 0, 0])
        self.assertEqual(answers([5, 3]), [5, 0, 0, 0, 0, 0])
        self.assertEqual(answers([6, 0, 8, 0x53, 0x57, 0x56, 0x48, 0, 0, 0, 0]), [5, 0, 0, 0, 0, 0])

    def test_how_a_refusal_stands(self):
        self.assertEqual(answers([5, 4]), [5, -1, 0, 0, 0, 0])
        self.assertEqual(answers([0, 2049] + [10] * 2049 + [0]), [5, -2, 0, 0, 0, 0])
        self.assertEqual(answers([2, 0, 3, 0x53, 0x57, 0]), [5, -6, 0, 0, 2, 2])
        self.assertEqual(answers([3, 0, 2, 0x53, 0x57]), [5, -6, 0, 0, 1, 2])
        self.assertEqual(answers([6, 0, 9, 0x53, 0x57, 0x56, 0x48, 0, 0, 0, 0, 7]), [5, -6, 0, 0, 4, 8])

    def test_several_calls_are_answered_in_order(self):
        self.assertEqual(answers(sum(CALLS, [])), sum([answers(call) for call in CALLS], []))
        numbers = [answer.number for answer in take_apart(answers(sum(CALLS, [])))]
        self.assertEqual(numbers, [2, 21, 1, 0, 22, 28, 0, -1, 0, -6, -6, -2, -1, 0, 0])

    def test_three_hundred_calls(self):
        self.assertEqual(answers([5, 0] * 300), [5, 0, 0, 0, 0, 0] * 300)

    def test_the_list_handed_in_is_unchanged(self):
        calls = sum(CALLS, [])
        before = list(calls)
        answers(calls)
        self.assertEqual(calls, before)

    def test_the_list_handed_in_is_not_changed_for_a_while_either(self):
        class Watched(list):
            def refuse(self, *rest):
                raise AssertionError("the list is changed")

            __setitem__ = __delitem__ = __iadd__ = __imul__ = refuse
            append = extend = insert = pop = remove = clear = sort = reverse = refuse

        self.assertEqual(answers(Watched(sum(CALLS, []))), answers(sum(CALLS, [])))

    def test_two_uses_answer_the_same(self):
        calls = sum(CALLS, [])
        first = answers(calls)
        first_copy = list(first)
        self.assertEqual(answers(calls), first)
        first.clear()
        self.assertEqual(answers(calls), first_copy)


if __name__ == "__main__":
    unittest.main()
