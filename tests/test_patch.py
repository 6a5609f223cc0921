import unittest

from helper import (PATCH_HEAD, apply, ask, ask_bytes, back, chance_texts, four, patch, patch_model, patch_of,
                    small_texts)


class PatchTest(unittest.TestCase):
    def test_bytes_of_a_patch(self):
        self.assertEqual(ask_bytes(patch(b"", b"")), b"SWV1\0\0\0\0")
        self.assertEqual(
            ask_bytes(patch(b"1\n2\n3\n", b"1\nxy\nz\n3\n4")),
            b"SWV1\2\0\0\0" b"\1\0\0\0\1\0\0\0\5\0\0\0xy\nz\n" b"\3\0\0\0\0\0\0\0\1\0\0\x004")

    def test_an_answer_is_the_size_and_the_bytes(self):
        self.assertEqual(ask(patch(b"a", b"a")).all(), (8, b"SWV1\0\0\0\0", [], (0, 0)))
        self.assertEqual(ask(apply(b"a", patch_of())).all(), (1, b"a", [], (0, 0)))
        self.assertEqual(ask(back(b"a", patch_of())).all(), (8, patch_of(), [], (0, 0)))

    def test_numbers_have_the_lowest_byte_first(self):
        a = b"\n" * 700
        long_line = b"q" * 50000
        self.assertEqual(ask_bytes(patch(a, a + b"z" * 600)), patch_of((700, 0, b"z" * 600)))
        self.assertEqual(ask_bytes(apply(a, patch_of((700, 0, long_line)))), a + long_line)

    def test_a_patch_has_the_runs_by_which_texts_differ(self):
        for a, b in chance_texts(3, 200, (b"x", b"y", b"zz"), 12, 2):
            self.assertEqual(ask_bytes(patch(a, b)), patch_model(a, b), (a, b))

    def test_there_and_back_again(self):
        texts = small_texts((b"x", b"y"), 3)
        pairs = [(a, b) for a in texts for b in texts]
        pairs += chance_texts(4, 300, (b"", b"x", b"yy"), 20, 2)
        for a, b in pairs:
            there = ask_bytes(patch(a, b))
            self.assertEqual(ask_bytes(apply(a, there)), b, (a, b))
            back_again = ask_bytes(back(a, there))
            self.assertEqual(ask_bytes(apply(b, back_again)), a, (a, b))
            self.assertEqual(ask_bytes(back(b, back_again)), there, (a, b))

    def test_turned_back_tells_lines_of_the_patched_text(self):
        a = b"1\n2\n3\n4\n5\n6"
        p = patch_of((0, 1, b"x\ny\nz\n"), (2, 2, b""), (5, 1, b"e\nf"))
        self.assertEqual(ask_bytes(apply(a, p)), b"x\ny\nz\n2\n5\ne\nf")
        self.assertEqual(ask_bytes(back(a, p)), patch_of((0, 3, b"1\n"), (4, 0, b"3\n4\n"), (5, 2, b"6")))

    def test_a_patch_need_not_have_the_fewest_lines(self):
        a = b"1\n2\n"
        p = patch_of((0, 2, b"1\n2\n"))
        self.assertEqual(ask_bytes(apply(a, p)), a)
        self.assertEqual(ask_bytes(back(a, p)), p)

    def test_a_patched_text_may_be_of_any_length(self):
        a = b"\n" * 2048
        self.assertEqual(ask_bytes(apply(a, patch_of((2048, 0, a)))), a + a)
        self.assertEqual(ask_bytes(back(a, patch_of((2048, 0, a)))), patch_of((2048, 2048, b"")))


class NoPatchTest(unittest.TestCase):
    def check(self, a, p, kind, place):
        for call in (apply, back):
            self.assertEqual(ask(call(a, p)).all(), (-6, b"", [], (kind, place)), (a, p))

    def check_good(self, a, p, b):
        self.assertEqual(ask_bytes(apply(a, p)), b)
        self.assertEqual(ask_bytes(apply(b, ask_bytes(back(a, p)))), a)

    def test_1_every_shorter_beginning_of_a_patch_ends(self):
        whole = patch_of((0, 1, b"x\ny\n"), (2, 0, b"z\n"), (3, 1, b""))
        self.check_good(b"1\n2\n3\n4\n", whole, b"x\ny\n2\nz\n3\n")
        for size in range(len(whole)):
            self.check(b"1\n2\n3\n4\n", whole[:size], 1, size)

    def test_1_more_runs_told_than_there_are(self):
        self.check(b"1\n", patch_of(count=1), 1, 8)
        self.check(b"1\n", patch_of((0, 1, b""), count=0xFFFFFFFF), 1, 20)

    def test_1_more_taken_bytes_told_than_there_are(self):
        p = patch_of(count=1) + four(0) + four(1) + four(0xFFFFFFFF) + b"x\n"
        self.check(b"1\n", p, 1, 22)

    def test_2_each_of_the_first_four_bytes(self):
        for at in range(4):
            for value in (0, 10, 0x30, 0x48, 255):
                p = bytearray(patch_of())
                p[at] = value
                self.check(b"1\n", bytes(p), 2, at)

    def test_2_the_first_wrong_byte_comes_ahead_of_the_end_and_of_other_wrong_ones(self):
        self.check(b"", b"S\0", 2, 1)
        self.check(b"", b"SW\0", 2, 2)
        self.check(b"", b"\0\0\0\0", 2, 0)
        self.check(b"", b"SWVH", 2, 3)
        self.check(b"", b"SX\0\0rest", 2, 1)

    def test_3_a_run_begins_where_the_one_before_it_ended_or_before(self):
        a = b"1\n2\n3\n4\n"
        self.check(a, patch_of((1, 1, b""), (2, 1, b"")), 3, 20)
        self.check(a, patch_of((1, 1, b"x\n"), (1, 1, b"")), 3, 22)
        self.check(a, patch_of((2, 0, b"x\n"), (2, 0, b"y\n")), 3, 22)
        self.check(a, patch_of((2, 1, b""), (0, 1, b"")), 3, 20)
        self.check_good(a, patch_of((1, 1, b""), (3, 1, b"")), b"1\n3\n")
        self.check_good(a, patch_of((0, 0, b"x\n"), (1, 0, b"y\n")), b"x\n1\ny\n2\n3\n4\n")

    def test_3_a_run_past_the_end(self):
        self.check(b"1\n2\n", patch_of((3, 0, b"x\n")), 3, 8)
        self.check(b"1\n2\n", patch_of((3, 1, b"x\n")), 3, 8)
        self.check(b"1\n2\n", patch_of((2, 1, b"x\n")), 3, 8)
        self.check(b"1\n2\n", patch_of((0, 3, b"x\n")), 3, 8)
        self.check(b"1\n2\n", patch_of((1, 0xFFFFFFFF, b"x\n")), 3, 8)
        self.check(b"1\n2\n", patch_of((0xFFFFFFFF, 1, b"x\n")), 3, 8)
        self.check(b"", patch_of((0, 1, b"")), 3, 8)
        self.check(b"", patch_of((1, 0, b"x\n")), 3, 8)
        self.check_good(b"1\n2\n", patch_of((2, 0, b"x\n")), b"1\n2\nx\n")
        self.check_good(b"1\n2\n", patch_of((0, 2, b"x\n")), b"x\n")
        self.check_good(b"", patch_of((0, 0, b"x\n")), b"x\n")

    def test_3_nothing_dropped_and_no_bytes(self):
        self.check(b"1\n2\n", patch_of((0, 0, b"")), 3, 8)
        self.check(b"1\n2\n", patch_of((2, 0, b"")), 3, 8)
        self.check(b"", patch_of((0, 0, b"")), 3, 8)
        self.check(b"1\n2\n", patch_of((0, 1, b""), (2, 0, b"")), 3, 20)

    def test_3_bytes_behind_an_open_last_line(self):
        self.check(b"1\n2", patch_of((2, 0, b"x\n")), 3, 8)
        self.check(b"1\n2", patch_of((2, 0, b"x")), 3, 8)
        self.check(b"1", patch_of((1, 0, b"\n")), 3, 8)
        self.check_good(b"1\n2", patch_of((1, 1, b"2\nx")), b"1\n2\nx")
        self.check_good(b"1\n2", patch_of((1, 0, b"x\n")), b"1\nx\n2")
        self.check_good(b"1\n2\n", patch_of((2, 0, b"x")), b"1\n2\nx")

    def test_3_a_run_is_looked_at_before_its_bytes_are_there(self):
        head = patch_of(count=1)
        self.check(b"1\n", head + four(2) + four(0) + four(5), 3, 8)
        self.check(b"1\n", head + four(2) + four(0) + b"\5\0\0", 1, 19)
        self.check(b"1\n", head + four(0) + four(2) + four(5) + b"x", 3, 8)
        self.check(b"1", head + four(1) + four(0) + four(5) + b"x", 3, 8)

    def test_3_an_open_last_line_taken_elsewhere_than_at_the_end(self):
        a = b"1\n2\n3\n"
        self.check(a, patch_of((0, 1, b"x")), 3, 20)
        self.check(a, patch_of((0, 1, b"x\nyy\nzzz")), 3, 25)
        self.check(a, patch_of((0, 0, b"x\ny")), 3, 22)
        self.check(a, patch_of((0, 1, b"x"), (2, 1, b"y")), 3, 20)
        self.check(a, patch_of((0, 1, b"x\n"), (2, 0, b"q\ny")), 3, 36)
        self.check_good(a, patch_of((2, 1, b"x\ny")), b"1\n2\nx\ny")
        self.check_good(a, patch_of((0, 3, b"y")), b"y")
        self.check_good(a, patch_of((0, 1, b"x\n"), (3, 0, b"y")), b"x\n2\n3\ny")
        self.check_good(b"", patch_of((0, 0, b"y")), b"y")
        self.check_good(b"1\n2", patch_of((1, 1, b"y")), b"1\ny")

    def test_3_an_open_line_at_the_end_but_not_in_the_last_run(self):
        self.check(b"1\n", patch_of((0, 1, b"x"), (1, 0, b"y")), 3, 20)
        self.check(b"1\n", patch_of((0, 1, b"x"), count=2), 3, 20)
        self.check(b"1\n", patch_of((1, 0, b"x\ny"), count=2), 3, 22)

    def test_1_comes_ahead_of_an_open_line_whose_bytes_are_not_all_there(self):
        p = patch_of(count=1) + four(0) + four(0) + four(3) + b"xy"
        self.check(b"1\n", p, 1, 22)
        self.check(b"1\n", p + b"z", 3, 20)

    def test_4_bytes_left_over(self):
        self.check(b"1\n", patch_of() + b"\0", 4, 8)
        self.check(b"1\n", patch_of((0, 1, b"x\n")) + b"more", 4, 22)
        self.check(b"1\n", patch_of((0, 1, b"x\n"), (9, 9, b"z"), count=1), 4, 22)

    def test_the_first_fault_from_the_front_is_told(self):
        self.check(b"1\n", b"SWV2" + patch_of((9, 9, b""))[4:] + b"x", 2, 3)
        self.check(b"1\n2\n", patch_of((0, 1, b"x"), (9, 9, b"")) + b"rest", 3, 20)
        self.check(b"1\n2\n", patch_of((5, 1, b"x")) + b"rest", 3, 8)
        self.check(b"1\n2\n", patch_of((0, 1, b""), (1, 1, b""), count=7), 3, 20)

    def test_the_head_is_as_told(self):
        self.assertEqual(PATCH_HEAD, bytes([0x53, 0x57, 0x56, 0x31]))


if __name__ == "__main__":
    unittest.main()
