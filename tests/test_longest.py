"""The longest texts and histories: each list of calls is answered within a few seconds."""

import random
import time
import unittest

from helper import NONE, ask_all, begin, differ, history_of, lines_of, load, merge, patch_of, put, save, text, whence
from linesback.shelf import answers

SECONDS = 5
SECONDS_FOR_300_CALLS = 10


def chance_lines(seed, how_many, signs):
    chance = random.Random(seed)
    return [chance.choice(signs) + b"\n" for _ in range(how_many)]


def long_text(seed, signs=(b"", b"x")):
    return b"".join(chance_lines(seed, 2048, signs))


def grown_history():
    """64 versions of 2,048 lines in few bytes: each takes the last line to the front, and has two parents."""
    lines = [b"\n"] * 2047 + [b"x\n"]
    versions = [(NONE, NONE, b"".join(lines))]
    for v in range(1, 64):
        second = v - 2 if v > 1 else NONE
        versions.append((v - 1, second, patch_of((0, 0, b"%d\n" % v), (2047, 1, b""))))
    return history_of(*versions)


class LongestTest(unittest.TestCase):
    def timed(self, *calls, seconds=SECONDS):
        flat = sum(calls, [])
        start = time.process_time()
        answers(flat)
        self.assertLess(time.process_time() - start, seconds)
        return ask_all(*calls)

    def test_differ(self):
        for signs in ((b"", b"x"), (b"a", b"b", b"c", b"d"), [b"%d" % number for number in range(500)]):
            a, b = long_text(1, signs), long_text(2, signs)
            answer = self.timed(differ(a, b))[0]
            dropped = sum(answer.list[1::4])
            taken = sum(answer.list[3::4])
            self.assertEqual(dropped, taken)
            self.assertEqual(len(answer.list), 4 * answer.number)

    def test_differ_without_a_same_line(self):
        answer = self.timed(differ(b"x\n" * 2048, b"y\n" * 2048))[0]
        self.assertEqual(answer.list, [0, 2048, 0, 2048])

    def test_merge(self):
        o = b"".join(b"%d\n" % number for number in range(2048))
        a = o.replace(b"7\n", b"7!\n")
        b = o.replace(b"3\n", b"3?\n")
        answer = self.timed(merge(o, a, b))[0]
        self.assertEqual((answer.bytes, answer.list), (a.replace(b"3\n", b"3?\n"), [0, 0]))
        answer = self.timed(merge(long_text(1), long_text(2), long_text(3)))[0]
        self.assertEqual(answer.number, len(answer.bytes))

    def test_put_with_one_parent_and_with_two(self):
        texts = [long_text(seed) for seed in range(6)]
        calls = [begin(0), put(0, 0, 0, texts[0]), put(0, 1, 0, texts[1])]
        calls += [put(0, v, v - 1, texts[v]) for v in range(2, 6)]
        answered = self.timed(*calls, *[text(0, v) for v in range(6)], *[whence(0, v) for v in range(6)])
        self.assertEqual([answer.bytes for answer in answered[7:13]], texts)
        self.assertEqual([answer.number for answer in answered[13:]], [2048] * 6)

    def test_64_versions_put(self):
        lines = [b"%d\n" % number for number in range(150)]
        calls = [begin(0)]
        for v in range(64):
            lines[v * 2] = b"!\n"
            calls.append(put(0, v, v - 1 if v > 1 else 0, b"".join(lines)))
        answered = self.timed(*calls, whence(0, 63), save(0))
        self.assertLess(len(sum(calls, [])), 60000)
        expected = [0] * 150
        for v in range(64):
            expected[v * 2] = v
        self.assertEqual(answered[-2].list, expected)

    def test_64_versions_of_2048_lines(self):
        data = grown_history()
        answered = self.timed(load(0, data), whence(0, 63), text(0, 63), save(0))
        self.assertEqual([answer.number for answer in answered[:2]], [0, 2048])
        self.assertEqual(answered[1].list, list(range(63, 0, -1)) + [0] * (2048 - 63))
        self.assertEqual(lines_of(answered[2].bytes)[:3], [b"63\n", b"62\n", b"61\n"])
        self.assertEqual(answered[3].bytes, data)

    def test_as_many_calls_as_a_list_holds(self):
        data = grown_history()
        calls = []
        while sum(len(call) for call in calls) + len(data) < 58000:
            calls += [load(0, data), whence(0, 63)]
        calls += [whence(0, 63)] * (300 - len(calls))
        self.assertEqual(len(calls), 300)
        answered = self.timed(*calls, seconds=SECONDS_FOR_300_CALLS)
        self.assertEqual(answered[-1].list, list(range(63, 0, -1)) + [0] * (2048 - 63))


if __name__ == "__main__":
    unittest.main()
