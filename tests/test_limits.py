import unittest

from helper import apply, ask, back, begin, differ, load, merge, patch, patch_of
from linesback.lines import are_too_large, is_too_large, split_lines
from linesback.shelf import exceeds

LONGEST = b"\n" * 2048
TOO_LONG = (b"\n" * 2049, b"\n" * 2048 + b"x", b"ab\n" * 3000)


class LimitsTest(unittest.TestCase):
    def check_refused(self, call):
        self.assertEqual(ask(call).all(), (-2, b"", [], (0, 0)))

    def check_taken(self, call):
        self.assertGreaterEqual(ask(call).number, 0)

    def test_too_many_lines_in_any_text(self):
        for text in TOO_LONG:
            for call in (differ, patch):
                self.check_refused(call(text, b""))
                self.check_refused(call(b"", text))
                self.check_refused(call(text, text))
            for call in (apply, back):
                self.check_refused(call(text, patch_of()))
            self.check_refused(merge(text, b"", b""))
            self.check_refused(merge(b"", text, b""))
            self.check_refused(merge(b"", b"", text))

    def test_2048_lines_are_taken(self):
        for text in (LONGEST, LONGEST[:-1] + b"x"):
            for call in (differ, patch):
                self.check_taken(call(text, b""))
                self.check_taken(call(b"", text))
            for call in (apply, back):
                self.check_taken(call(text, patch_of()))
            self.check_taken(merge(text, text, text))

    def test_it_comes_ahead_of_a_faulty_patch(self):
        for call in (apply, back):
            self.check_refused(call(TOO_LONG[0], b"no patch"))
            self.check_refused(call(TOO_LONG[0], b""))

    def test_a_patch_is_no_text(self):
        for call in (apply, back):
            self.check_taken(call(b"", patch_of((0, 0, TOO_LONG[0]))))

    def test_the_bytes_of_a_history_are_no_text(self):
        self.assertEqual(ask(load(0, TOO_LONG[0])).all(), (-6, b"", [], (2, 0)))
        self.assertEqual(ask(begin(4)).number, -1)

    # A list of calls is too short for what follows; the words name these sizes all the same.
    def test_too_many_bytes(self):
        self.assertTrue(is_too_large([1] * 65537))
        self.assertFalse(is_too_large([1] * 65536))
        self.assertTrue(are_too_large(split_lines([1] * 65537)))
        self.assertFalse(are_too_large(split_lines([1] * 65536)))
        self.check_refused(differ(b"x" * 65537, b""))
        self.check_taken(differ(b"x" * 65536, b""))

    def test_too_large_patches(self):
        self.assertTrue(exceeds("patch", [0] * 131073))
        self.assertFalse(exceeds("patch", [0] * 131072))
        for call in (apply, back):
            self.check_refused(call(b"", b"x" * 131073))
            self.assertEqual(ask(call(b"", b"x" * 131072)).number, -6)

    def test_too_large_histories(self):
        self.assertTrue(exceeds("history", [0] * 1200001))
        self.assertFalse(exceeds("history", [0] * 1200000))
        self.check_refused(load(0, b"x" * 1200001))
        self.check_refused(load(4, b"x" * 1200001))
        self.assertEqual(ask(load(0, b"x" * 1200000)).number, -6)


if __name__ == "__main__":
    unittest.main()
