import unittest

from helper import (all_ways, ask, chance_texts, cost, differ, first_way, first_way_of_all, lines_of, runs_of_way,
                    small_texts)


class DifferTest(unittest.TestCase):
    def runs(self, a, b):
        answer = ask(differ(a, b))
        self.assertEqual((answer.bytes, answer.fault), (b"", (0, 0)))
        self.assertEqual(len(answer.list), 4 * answer.number)
        return [answer.list[at:at + 4] for at in range(0, len(answer.list), 4)]

    def test_empty_texts(self):
        self.assertEqual(self.runs(b"", b""), [])
        self.assertEqual(self.runs(b"", b"x\ny\n"), [[0, 0, 0, 2]])
        self.assertEqual(self.runs(b"x\ny\n", b""), [[0, 2, 0, 0]])

    def test_equal_texts(self):
        for text in (b"\n", b"x", b"x\n", b"x\ny", b"x\nx\nx\n", b"\n\n\n"):
            self.assertEqual(self.runs(text, text), [])

    def test_an_open_line_is_not_the_same_as_an_ended_one(self):
        self.assertEqual(self.runs(b"x", b"x\n"), [[0, 1, 0, 1]])
        self.assertEqual(self.runs(b"x\n", b"x"), [[0, 1, 0, 1]])
        self.assertEqual(self.runs(b"x\ny", b"x\ny\n"), [[1, 1, 1, 1]])
        self.assertEqual(self.runs(b"x", b"x\ny"), [[0, 1, 0, 2]])

    def test_all_bytes_but_the_line_end_are_parts_of_lines(self):
        every = bytes(value for value in range(256) if value != 10)
        self.assertEqual(self.runs(every + b"\n", every + b"\r\n"), [[0, 1, 0, 1]])
        self.assertEqual(self.runs(b"a\rb\0c\n", b"a\rb\0c\n\x0b\n"), [[1, 0, 1, 1]])

    def test_runs_and_their_four_numbers(self):
        a = b"1\n2\n3\n4\n5\n6\n"
        self.assertEqual(self.runs(a, b"2\n3\nx\ny\n5\n6\nz\n"), [[0, 1, 0, 0], [3, 1, 2, 2], [6, 0, 6, 1]])
        self.assertEqual(self.runs(a, b"1\n2\n4\n5\n6\n"), [[2, 1, 2, 0]])
        self.assertEqual(self.runs(a, b"1\nx\n2\n3\n4\n5\n6\n"), [[1, 0, 1, 1]])

    def test_keep_comes_before_drop(self):
        # Of two same lines the first is kept, on either side.
        self.assertEqual(self.runs(b"x\nx\n", b"x\n"), [[1, 1, 1, 0]])
        self.assertEqual(self.runs(b"x\n", b"x\nx\n"), [[1, 0, 1, 1]])

    def test_drop_comes_before_take(self):
        # Either x or y can be kept: by drop, keep, take it is y.
        self.assertEqual(self.runs(b"x\ny\n", b"y\nx\n"), [[0, 1, 0, 0], [2, 0, 1, 1]])

    def test_same_lines_at_the_end_are_not_kept_for_their_own_sake(self):
        self.assertEqual(self.runs(b"c\nb\n", b"b\nb\n"), [[0, 1, 0, 0], [2, 0, 1, 1]])

    def test_drops_and_takes_side_by_side_are_one_run(self):
        self.assertEqual(self.runs(b"1\n2\n", b"3\n4\n5\n"), [[0, 2, 0, 3]])

    def test_against_every_way(self):
        texts = small_texts((b"x", b"y"), 3)
        for a in texts:
            for b in texts:
                way = first_way_of_all(lines_of(a), lines_of(b))
                self.assertEqual(self.runs(a, b), runs_of_way(way), (a, b))

    def test_against_every_way_with_three_signs(self):
        for a, b in chance_texts(1, 150, (b"x", b"y", b"z"), 6, 2):
            way = first_way_of_all(lines_of(a), lines_of(b))
            self.assertEqual(self.runs(a, b), runs_of_way(way), (a, b))

    def test_no_way_has_fewer_drops_and_takes(self):
        for a, b in chance_texts(2, 60, (b"x", b"y"), 6, 2):
            steps = sum(run[1] + run[3] for run in self.runs(a, b))
            self.assertEqual(steps, min(cost(way) for way in all_ways(lines_of(a), lines_of(b))), (a, b))

    def test_against_the_table_for_longer_texts(self):
        for signs in ((b"x", b"y"), (b"1", b"2", b"3", b"4", b"5"), (b"", b"a", b"aa", b"ab")):
            for a, b in chance_texts(len(signs), 60, signs, 90, 2):
                way = first_way(lines_of(a), lines_of(b))
                self.assertEqual(self.runs(a, b), runs_of_way(way), (a, b))

    def test_the_longest_texts(self):
        a = b"x\n\n" * 1024
        b = b"\nx\n" * 1024
        self.assertEqual(self.runs(a, b), [[0, 1, 0, 0], [2048, 0, 2047, 1]])


if __name__ == "__main__":
    unittest.main()
