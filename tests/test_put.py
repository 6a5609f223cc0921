import unittest

from helper import NONE, ask_all, ask_behind, begin, history_of, lines_of, load, parents, patch_of, put, save, text

TOO_LONG = (b"\n" * 2049, b"\n" * 2048 + b"x", b"x" * 65537)
THREE = [begin(0), put(0, 0, 0, b"1\n"), put(0, 1, 0, b"1\n2\n"), put(0, 2, 1, b"3\n")]
FULL = [begin(0)] + [put(0, 0, 0, b"%d\n" % number) for number in range(64)]


class PutTest(unittest.TestCase):
    def check_number(self, calls, call, number):
        self.assertEqual(ask_behind(calls, call).all(), (number, b"", [], (0, 0)), call)

    def test_the_number_that_it_has(self):
        answered = ask_all(*FULL)
        self.assertEqual([answer.all() for answer in answered],
                         [(0, b"", [], (0, 0))] + [(number, b"", [], (0, 0)) for number in range(64)])

    def test_no_parent_one_and_two(self):
        self.check_number(THREE, put(0, 0, 0, b"x"), 3)
        for p in (1, 2, 3):
            self.check_number(THREE, put(0, p, 0, b"x"), 3)
            for q in (1, 2, 3):
                if q != p:
                    self.check_number(THREE, put(0, p, q, b"x"), 3)

    def test_texts_of_all_sorts(self):
        for data in (b"", b"\n", b"x", b"x\ny", bytes(range(256)), b"\n" * 2048, b"\n" * 2047 + b"x", b"x" * 65536):
            self.check_number([begin(0)], put(0, 0, 0, data), 0)
            self.check_number(THREE, put(0, 3, 1, data), 3)

    def test_behind_a_loaded_history(self):
        one = history_of((NONE, NONE, b"1\n"), (0, NONE, patch_of()))
        self.check_number([load(2, one)], put(2, 2, 1, b"x"), 2)


class RefusedPutTest(unittest.TestCase):
    def check_refused(self, calls, call, number):
        """And the history stays as it was."""
        answered = ask_all(*calls, save(0), call, save(0))
        self.assertEqual(answered[-2].all(), (number, b"", [], (0, 0)), call)
        self.assertEqual(answered[-1].all(), answered[-3].all(), call)

    def test_a_second_parent_without_a_first(self):
        for q in (1, 2, 3, 4, 65535):
            self.check_refused(THREE, put(0, 0, q, b"x"), -1)
        self.check_refused([begin(0)], put(0, 0, 1, b"x"), -1)

    def test_both_parents_the_same(self):
        for p in (1, 2, 3, 4, 65535):
            self.check_refused(THREE, put(0, p, p, b"x"), -1)
        self.check_refused([begin(0)], put(0, 1, 1, b"x"), -1)

    def test_a_version_that_is_not_there(self):
        for number in (4, 5, 64, 65, 65535):
            self.check_refused(THREE, put(0, number, 0, b"x"), -4)
            self.check_refused(THREE, put(0, number, 1, b"x"), -4)
            self.check_refused(THREE, put(0, 1, number, b"x"), -4)
            self.check_refused(THREE, put(0, number, number + 1 if number < 65535 else 4, b"x"), -4)
        self.check_refused([begin(0)], put(0, 1, 0, b"x"), -4)
        self.check_refused([begin(0)], put(0, 1, 2, b"x"), -4)

    def test_the_65th_version(self):
        self.assertEqual(ask_all(*FULL)[-1].number, 63)
        for call in (put(0, 0, 0, b""), put(0, 64, 0, b"63\n"), put(0, 64, 1, b"x")):
            self.check_refused(FULL, call, -3)

    def test_the_65th_version_behind_a_loaded_history(self):
        full = history_of(*[(NONE, NONE, b"")] * 64)
        self.check_refused([load(0, full)], put(0, 0, 0, b""), -3)
        self.check_refused([load(0, history_of(*[(NONE, NONE, b"")] * 63)), put(0, 63, 0, b"")], put(0, 0, 0, b""), -3)

    def test_the_parents_come_ahead_of_the_65th_version(self):
        self.check_refused(FULL, put(0, 0, 1, b""), -1)
        self.check_refused(FULL, put(0, 3, 3, b""), -1)
        self.check_refused(FULL, put(0, 65, 0, b""), -4)
        self.check_refused(FULL, put(0, 1, 65, b""), -4)

    # A list of calls is too short for so much; the words name the size all the same.
    def test_too_much_kept(self):
        most = [begin(0)] + [put(0, 0, 0, b"x" * 65536)] * 16
        self.assertEqual([answer.number for answer in ask_all(*most)], [0] + list(range(16)))
        self.check_refused(most, put(0, 0, 0, b"x"), -3)
        self.check_refused(most, put(0, 1, 0, b"x" * 65536), -3)
        self.assertEqual(ask_behind(most, put(0, 0, 0, b"")).number, 16)

    def test_what_counts_is_what_is_kept(self):
        nearly = [begin(0)] + [put(0, 0, 0, b"x" * 65536)] * 15 + [put(0, 0, 0, b"x" * 65516)]
        # A patch of one run has 20 bytes and those of its lines, an empty one 8.
        self.check_refused(nearly, put(0, 1, 0, b"y"), -3)
        self.assertEqual(ask_behind(nearly, put(0, 1, 0, b"")).number, 16)
        self.assertEqual(ask_behind(nearly, put(0, 1, 0, b"x" * 65536)).number, 16)
        self.check_refused(nearly + [put(0, 1, 0, b"")], put(0, 0, 0, b"x"), -3)
        self.check_refused(nearly + [put(0, 1, 0, b"x" * 65536)], put(0, 0, 0, b"x" * 13), -3)
        self.assertEqual(ask_behind(nearly + [put(0, 1, 0, b"x" * 65536)], put(0, 0, 0, b"x" * 12)).number, 17)

    def test_a_refused_put_keeps_nothing(self):
        nearly = [begin(0)] + [put(0, 0, 0, b"x" * 65536)] * 15 + [put(0, 0, 0, b"x" * 65535)]
        refused = [put(0, 0, 0, b"xx"), put(0, 0, 1, b"x"), put(0, 99, 0, b"x")] * 3
        self.assertEqual(ask_behind(nearly + refused, put(0, 0, 0, b"x")).number, 16)

    def test_a_too_large_text(self):
        for data in TOO_LONG:
            self.check_refused(THREE, put(0, 0, 0, data), -2)
            self.check_refused(THREE, put(0, 3, 1, data), -2)

    def test_a_too_large_text_comes_ahead_of_every_other_refusal(self):
        for data in TOO_LONG:
            self.check_refused(THREE, put(4, 0, 0, data), -2)
            self.check_refused(THREE, put(65535, 9, 9, data), -2)
            self.check_refused(THREE, put(1, 0, 0, data), -2)
            self.check_refused(THREE, put(0, 0, 1, data), -2)
            self.check_refused(THREE, put(0, 1, 1, data), -2)
            self.check_refused(THREE, put(0, 9, 0, data), -2)
            self.check_refused(FULL, put(0, 0, 0, data), -2)

    def test_the_history_comes_ahead_of_the_parents(self):
        for p, q in ((0, 0), (0, 1), (1, 1), (9, 0), (1, 0)):
            self.check_refused(THREE, put(4, p, q, b"x"), -1)
            self.check_refused(THREE, put(65535, p, q, b"x"), -1)
            self.check_refused(THREE, put(1, p, q, b"x"), -3)

    def test_a_refused_put_begins_no_history(self):
        self.assertEqual([answer.number for answer in ask_all(put(1, 0, 0, b"x"), put(1, 0, 0, b"x"), save(1))],
                         [-3, -3, -3])


class TextAndParentsTest(unittest.TestCase):
    def check_versions(self, *versions):
        calls = [begin(1)] + [put(1, *version) for version in versions]
        asked = [call(1, v) for v in range(len(versions)) for call in (text, parents)]
        answered = ask_all(*calls, *asked)[len(calls):]
        told = []
        for p, q, data in versions:
            told += [(len(data), data, [], (0, 0)), (0, b"", [p, q], (0, 0))]
        self.assertEqual([answer.all() for answer in answered], told)

    def test_no_parent(self):
        self.check_versions((0, 0, b""))
        self.check_versions((0, 0, b"x\ny"), (0, 0, b"x\ny\n"), (0, 0, b"\n"), (0, 0, bytes(range(256))))

    def test_one_parent(self):
        self.check_versions((0, 0, b"x\ny"), (1, 0, b"x\ny\n"), (2, 0, b""), (3, 0, b"z"), (1, 0, b"x\n"))
        self.check_versions((0, 0, b"x"), (1, 0, b"x"), (2, 0, b"x"))

    def test_two_parents(self):
        self.check_versions((0, 0, b"x\n"), (0, 0, b"y\n"), (1, 2, b"x\ny\n"), (2, 1, b"y\nx\n"), (4, 3, b""),
                            (1, 5, b"x\n"), (5, 1, b"x"))

    def test_all_64_versions(self):
        self.check_versions(*[(v, v - 1 if v > 1 else 0, b"%d\n" % v * (v % 5)) for v in range(64)])

    def test_no_such_version(self):
        for call in (text, parents):
            for v in (0, 1, 65535):
                self.assertEqual(ask_behind([begin(0)], call(0, v)).all(), (-4, b"", [], (0, 0)))
            for v in (3, 4, 63, 64, 65535):
                self.assertEqual(ask_behind(THREE, call(0, v)).all(), (-4, b"", [], (0, 0)))
            for v in (64, 65535):
                self.assertEqual(ask_behind(FULL, call(0, v)).all(), (-4, b"", [], (0, 0)))

    def test_a_later_version_leaves_the_ones_before_it(self):
        answered = ask_all(*THREE, text(0, 0), put(0, 1, 0, b"other"), text(0, 0), parents(0, 0))
        self.assertEqual(answered[-4].all(), answered[-2].all())
        self.assertEqual(lines_of(answered[-2].bytes), [b"1\n"])
        self.assertEqual(answered[-1].list, [0, 0])


if __name__ == "__main__":
    unittest.main()
