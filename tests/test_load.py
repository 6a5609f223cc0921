import unittest

from helper import HISTORY_HEAD, NONE, ask, ask_bytes, begin, chance_texts, four, history_of, load, patch, patch_of
from linesback.lines import join_lines
from linesback.saving import read_history
from linesback.shelf import CallReader, Shelf


def good_history():
    return history_of(
        (NONE, NONE, b"1\n2\n"),
        (0, NONE, patch_of((1, 1, b"x\n"))),
        (0, NONE, patch_of((2, 0, b"3"))),
        (1, 2, patch_of((2, 0, b"3"))),
        (NONE, NONE, b""))


def texts_of(data):
    return [bytes(join_lines(version.lines)) for version in read_history(list(data)).versions]


class BeginTest(unittest.TestCase):
    def test_histories_0_to_3(self):
        for number in range(4):
            self.assertEqual(ask(begin(number)).all(), (0, b"", [], (0, 0)))

    def test_above_3(self):
        for number in (4, 5, 65535):
            self.assertEqual(ask(begin(number)).all(), (-1, b"", [], (0, 0)))


class GoodHistoryTest(unittest.TestCase):
    def check_good(self, data):
        for number in range(4):
            self.assertEqual(ask(load(number, data)).all(), (0, b"", [], (0, 0)), data)

    def test_no_version(self):
        self.assertEqual(history_of(), b"SWVH\0\0\0\0")
        self.check_good(history_of())

    def test_one_version(self):
        for text in (b"", b"\n", b"x", b"x\n", b"x\ny"):
            self.check_good(history_of((NONE, NONE, text)))
            self.assertEqual(texts_of(history_of((NONE, NONE, text))), [text])

    def test_several_versions_with_second_parents(self):
        self.check_good(good_history())
        self.assertEqual(texts_of(good_history()), [b"1\n2\n", b"1\nx\n", b"1\n2\n3", b"1\nx\n3", b""])

    def test_what_is_read_of_a_version(self):
        versions = read_history(list(good_history())).versions
        parents = [(version.first_parent, version.second_parent) for version in versions]
        self.assertEqual(parents, [(None, None), (0, None), (0, None), (1, 2), (None, None)])
        self.assertEqual(bytes(versions[0].kept), b"1\n2\n")
        self.assertEqual(bytes(versions[3].kept), patch_of((2, 0, b"3")))

    def test_a_second_parent_may_come_before_the_first(self):
        one = (NONE, NONE, b"")
        self.check_good(history_of(one, one, (1, 0, patch_of())))
        self.check_good(history_of(one, one, (0, 1, patch_of())))

    def test_an_unchanged_version(self):
        self.check_good(history_of((NONE, NONE, b"x"), (0, NONE, patch_of()), (1, 0, patch_of())))

    def test_sixty_four_versions(self):
        self.check_good(history_of((NONE, NONE, b"x"), *[(v, NONE, patch_of()) for v in range(63)]))

    def test_the_longest_text_kept_and_patched(self):
        longest = b"\n" * 2048
        self.check_good(history_of((NONE, NONE, longest)))
        self.check_good(history_of((NONE, NONE, longest[:-1]), (0, NONE, patch_of((2047, 0, b"\n")))))

    def test_patches_of_many_texts(self):
        for texts in chance_texts(7, 60, (b"x", b"y", b""), 8, 6):
            versions = [(NONE, NONE, texts[0])]
            for number in range(1, 6):
                parent = number // 2
                versions.append((parent, NONE, ask_bytes(patch(texts[parent], texts[number]))))
            self.check_good(history_of(*versions))
            self.assertEqual(texts_of(history_of(*versions)), list(texts))


class NoHistoryTest(unittest.TestCase):
    def check(self, data, kind, place):
        self.assertEqual(ask(load(0, data)).all(), (-6, b"", [], (kind, place)), data)

    def test_above_3_comes_ahead_of_the_fault(self):
        for number in (4, 65535):
            for data in (b"", b"SWVX", good_history()):
                self.assertEqual(ask(load(number, data)).all(), (-1, b"", [], (0, 0)))

    def test_1_every_shorter_beginning_of_a_history_ends(self):
        whole = good_history()
        for size in range(len(whole)):
            self.check(whole[:size], 1, size)

    def test_2_each_of_the_first_four_bytes(self):
        for at in range(4):
            for value in (0, 10, 0x31, 0x49, 255):
                data = bytearray(good_history())
                data[at] = value
                self.check(bytes(data), 2, at)

    def test_2_the_first_wrong_byte_comes_ahead_of_the_end(self):
        self.check(b"S\0", 2, 1)
        self.check(b"SWV1", 2, 3)
        self.check(b"x", 2, 0)

    def test_3_more_than_64_versions(self):
        versions = [(NONE, NONE, b"")] * 65
        self.check(history_of(*versions), 3, 4)
        self.check(history_of(count=65), 3, 4)
        self.check(history_of(count=0xFFFFFFFF), 3, 4)
        self.check(history_of(count=64), 1, 8)
        self.check(HISTORY_HEAD + b"\xff\xff\xff", 1, 7)

    def test_3_a_first_parent_that_is_not_before(self):
        self.check(history_of((0, NONE, b"")), 3, 8)
        self.check(history_of((1, NONE, b"")), 3, 8)
        self.check(history_of((NONE - 1, NONE, b"")), 3, 8)
        self.check(history_of((NONE, NONE, b"x\n"), (1, NONE, patch_of())), 3, 22)
        self.check(history_of((NONE, NONE, b"x\n"), (0x100, NONE, patch_of())), 3, 22)

    def test_3_a_second_parent_that_is_not_before(self):
        self.check(history_of((NONE, NONE, b"x\n"), (0, 1, patch_of())), 3, 26)
        self.check(history_of((NONE, NONE, b"x\n"), (0, NONE - 1, patch_of())), 3, 26)
        self.check(history_of((NONE, 0, b"")), 3, 12)

    def test_3_a_second_parent_without_a_first(self):
        self.check(history_of((NONE, NONE, b"x\n"), (NONE, 0, b"")), 3, 26)

    def test_3_a_second_parent_the_same_as_the_first(self):
        self.check(history_of((NONE, NONE, b"x\n"), (0, 0, patch_of())), 3, 26)

    def test_3_each_parent_is_looked_at_when_its_four_bytes_are_there(self):
        self.check(history_of(count=1) + four(7), 3, 8)
        self.check(history_of(count=1) + four(7)[:3], 1, 11)
        self.check(history_of(count=1) + four(NONE) + four(0), 3, 12)
        self.check(history_of(count=1) + four(NONE) + four(0)[:3], 1, 15)
        self.check(history_of((7, 7, b"")), 3, 8)

    def test_6_more_kept_than_allowed(self):
        head = history_of(count=1) + four(NONE) + four(NONE)
        self.check(head + four(1048577), 6, 16)
        self.check(head + four(0xFFFFFFFF) + b"x", 6, 16)
        self.check(head + four(1048577)[:3], 1, 19)
        self.check(head + four(1048576), 1, 20)
        self.check(head + four(1048576) + b"x", 1, 21)

    def test_6_counts_what_all_so_far_keep(self):
        kept = b"x" * 1000 + b"\n"
        head = history_of((NONE, NONE, kept), count=2) + four(NONE) + four(NONE)
        self.check(head + four(1048576 - 1001 + 1), 6, 1021 + 8)
        self.check(head + four(1048576 - 1001), 1, 1021 + 12)

    def test_6_comes_behind_the_parents(self):
        self.check(history_of(count=1) + four(0) + four(NONE) + four(0xFFFFFFFF), 3, 8)
        self.check(history_of(count=1) + four(NONE) + four(0) + four(0xFFFFFFFF), 3, 12)

    def test_5_no_patch_of_the_first_parent(self):
        one = (NONE, NONE, b"1\n2\n")
        for kept in (b"", b"SWV1", b"SWVH\0\0\0\0", b"1\n2\n", patch_of((2, 1, b"")), patch_of((0, 0, b"")),
                     patch_of((0, 1, b"x")), patch_of() + b"x", patch_of(count=1)):
            self.check(history_of(one, (0, NONE, kept)), 5, 32)

    def test_5_a_patch_of_another_version_than_the_first_parent(self):
        versions = [(NONE, NONE, b"1\n"), (NONE, NONE, b"1\n2\n"), (0, 1, patch_of((1, 1, b"")))]
        self.check(history_of(*versions), 5, 8 + 14 + 16 + 8)
        versions[2] = (1, 0, patch_of((1, 1, b"")))
        self.assertEqual(ask(load(0, history_of(*versions))).number, 0)

    def test_5_a_text_of_too_many_lines(self):
        longest = b"\n" * 2048
        self.check(history_of((NONE, NONE, longest + b"\n")), 5, 16)
        self.check(history_of((NONE, NONE, longest + b"x")), 5, 16)
        self.check(history_of((NONE, NONE, longest), (0, NONE, patch_of((2048, 0, b"x")))), 5, 20 + 2048 + 8)

    def test_5_a_text_of_too_many_bytes(self):
        full = b"x" * 50000 + b"\n"
        fills = b"y" * (65536 - len(full))
        grown = history_of((NONE, NONE, full), (0, NONE, patch_of((1, 0, fills))))
        # Such a history is longer than a list of calls may be: it is read by itself.
        self.assertEqual(texts_of(grown)[1], full + fills)
        self.check(history_of((NONE, NONE, full), (0, NONE, patch_of((1, 0, fills + b"y")))), 5, 20 + len(full) + 8)
        self.check(history_of((NONE, NONE, b"x" * 65537)), 5, 16)

    def test_5_a_patch_that_is_not_the_one_of_its_text(self):
        two = (NONE, NONE, b"1\n2\n")
        same = (NONE, NONE, b"1\n1\n")
        self.check(history_of(two, (0, NONE, patch_of((0, 2, b"1\n2\n")))), 5, 32)
        self.check(history_of(two, (0, NONE, patch_of((0, 2, b"1\n")))), 5, 32)
        self.check(history_of(two, (0, NONE, patch_of((0, 0, b"2\n"), (1, 1, b"")))), 5, 32)
        self.check(history_of(same, (0, NONE, patch_of((0, 1, b"")))), 5, 32)
        self.assertEqual(ask(load(0, history_of(two, (0, NONE, patch_of((0, 1, b""), (2, 0, b"1\n")))))).number, 0)
        self.assertEqual(ask(load(0, history_of(same, (0, NONE, patch_of((1, 1, b"")))))).number, 0)

    def test_5_comes_when_the_kept_bytes_are_all_there(self):
        bad = history_of((NONE, NONE, b"1\n2\n"), (0, NONE, b"no patch"))
        self.check(bad[:-1], 1, len(bad) - 1)
        self.check(bad, 5, 32)
        self.check(bad + b"left over", 5, 32)

    def test_4_bytes_left_over(self):
        self.check(history_of() + b"\0", 4, 8)
        self.check(good_history() + b"more", 4, len(good_history()))
        self.check(history_of((NONE, NONE, b"x"), (NONE, NONE, b"y"), count=1), 4, 21)

    def test_the_first_fault_from_the_front_is_told(self):
        self.check(b"SWVX" + four(65), 2, 3)
        self.check(history_of((NONE, NONE, b"\n" * 2049), (9, 9, b"")), 5, 16)
        self.check(history_of((9, NONE, b"\n" * 2049)) + b"x", 3, 8)


class ShelfTest(unittest.TestCase):
    def told(self, shelf, call):
        return shelf.answer(CallReader(call).read_call())

    def test_a_refused_call_changes_nothing(self):
        shelf = Shelf()
        self.told(shelf, load(2, good_history()))
        kept = shelf.histories[2]
        for call in (load(2, b""), load(2, good_history() + b"x"), load(4, good_history()), begin(4)):
            self.assertLess(self.told(shelf, call)[0], 0)
            self.assertEqual(list(shelf.histories), [2])
            self.assertIs(shelf.histories[2], kept)
        self.assertEqual(len(kept.versions), 5)

    def test_begin_and_load_put_a_history_in_the_place_of_another(self):
        shelf = Shelf()
        self.told(shelf, load(1, good_history()))
        self.told(shelf, begin(3))
        self.assertEqual(len(shelf.histories[1].versions), 5)
        self.assertEqual(len(shelf.histories[3].versions), 0)
        self.told(shelf, begin(1))
        self.assertEqual(len(shelf.histories[1].versions), 0)
        self.told(shelf, load(3, history_of((NONE, NONE, b"x"))))
        self.assertEqual(len(shelf.histories[3].versions), 1)


if __name__ == "__main__":
    unittest.main()
