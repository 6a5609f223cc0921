import unittest

from helper import ask, chance_texts, merge, merged_model, places_of, small_texts


class MergeTest(unittest.TestCase):
    def merged(self, o, a, b):
        answer = ask(merge(o, a, b))
        self.assertEqual(answer.number, len(answer.bytes))
        self.assertEqual((len(answer.list), answer.fault), (2, (0, 0)))
        return (answer.bytes, answer.list[0], answer.list[1])

    def texts(self):
        few = small_texts((b"x", b"y"), 2)
        triples = [(o, a, b) for o in few for a in few for b in few]
        triples += chance_texts(5, 400, (b"x", b"y"), 6, 3)
        triples += chance_texts(6, 400, (b"1", b"2", b"3", b"", b"5", b"6", b"7"), 12, 3)
        return triples

    def test_both_changed_elsewhere(self):
        o = b"1\n2\n3\n4\n5\n"
        self.assertEqual(self.merged(o, b"1\nx\n3\n4\n5\n", b"1\n2\n3\n5\nz"), (b"1\nx\n3\n5\nz", 0, 0))

    def test_empty_texts(self):
        self.assertEqual(self.merged(b"", b"", b""), (b"", 0, 0))
        self.assertEqual(self.merged(b"", b"", b"x"), (b"x", 0, 0))
        self.assertEqual(self.merged(b"x\n", b"", b""), (b"", 0, 0))
        self.assertEqual(self.merged(b"x\n", b"", b"x\n"), (b"", 0, 0))

    def test_both_changed_the_same_alike(self):
        self.assertEqual(self.merged(b"1\n2\n3\n", b"1\nx\n3\n", b"1\nx\n3\nw\n"), (b"1\nx\n3\nw\n", 0, 0))

    def test_a_clash_and_its_marks(self):
        found = self.merged(b"1\n2\n3\n", b"1\nx\ny\n3\n", b"1\nz\n3\n")
        self.assertEqual(found, (b"1\n<<<<<<<\nx\ny\n=======\nz\n>>>>>>>\n3\n", 1, 2))

    def test_a_clash_at_the_very_front(self):
        found = self.merged(b"1\n2\n", b"x\n2\n", b"y\n2\n")
        self.assertEqual(found, (b"<<<<<<<\nx\n=======\ny\n>>>>>>>\n2\n", 1, 0))
        self.assertEqual(self.merged(b"1\n", b"", b"y\n"), (b"<<<<<<<\n=======\ny\n>>>>>>>\n", 1, 0))
        self.assertEqual(self.merged(b"1\n", b"y\n", b""), (b"<<<<<<<\ny\n=======\n>>>>>>>\n", 1, 0))

    def test_several_clashes_tell_the_first_mark(self):
        found = self.merged(b"k\n1\n2\n3\n", b"k\na\n2\nc\n", b"k\nb\n2\nd\n")
        text = b"k\n<<<<<<<\na\n=======\nb\n>>>>>>>\n2\n<<<<<<<\nc\n=======\nd\n>>>>>>>\n"
        self.assertEqual(found, (text, 2, 2))

    def test_a_changed_place_before_the_first_clash_moves_its_mark(self):
        found = self.merged(b"1\n2\n3\n", b"one\n2\na\n", b"1\n2\nb\n")
        self.assertEqual(found, (b"one\n2\n<<<<<<<\na\n=======\nb\n>>>>>>>\n", 1, 6))

    def test_marks_in_a_text_are_lines_like_others(self):
        text = b"<<<<<<<\n1\n=======\n2\n>>>>>>>\n"
        self.assertEqual(self.merged(text, text, text), (text, 0, 0))

    def test_marks_behind_open_lines(self):
        self.assertEqual(self.merged(b"", b"x", b"y\n"), (b"<<<<<<<\nx\n=======\ny\n>>>>>>>\n", 1, 0))
        self.assertEqual(self.merged(b"", b"x\n", b"y"), (b"<<<<<<<\nx\n=======\ny\n>>>>>>>\n", 1, 0))
        self.assertEqual(self.merged(b"", b"x", b"y"), (b"<<<<<<<\nx\n=======\ny\n>>>>>>>\n", 1, 0))
        self.assertEqual(self.merged(b"1\n2", b"1\n2\n", b"1\n"), (b"1\n<<<<<<<\n2\n=======\n>>>>>>>\n", 1, 2))
        self.assertEqual(self.merged(b"1\n2", b"1\n", b"1\n3"), (b"1\n<<<<<<<\n=======\n3\n>>>>>>>\n", 1, 2))

    def test_an_open_line_stays_open_where_nothing_clashes(self):
        self.assertEqual(self.merged(b"1\n2", b"0\n1\n2", b"1\n3"), (b"0\n1\n3", 0, 0))

    def test_side_by_side_changes_are_one_place(self):
        found = self.merged(b"1\n2\n", b"x\n2\n", b"1\ny\n")
        self.assertEqual(found, (b"<<<<<<<\nx\n2\n=======\n1\ny\n>>>>>>>\n", 1, 0))

    def test_still_lines_are_those_that_the_first_way_keeps(self):
        # Each of the others keeps only y, though with a alone x could be kept as well.
        found = self.merged(b"x\ny\n", b"y\nx\n", b"y\nz\n")
        self.assertEqual(found, (b"y\n<<<<<<<\nx\n=======\nz\n>>>>>>>\n", 1, 2))

    def test_of_o_a_a_and_of_o_o_b_and_of_o_a_o(self):
        for o, a, b in self.texts():
            self.assertEqual(self.merged(o, a, a), (a, 0, 0), (o, a))
            self.assertEqual(self.merged(o, o, b), (b, 0, 0), (o, b))
            self.assertEqual(self.merged(o, a, o), (a, 0, 0), (o, a))

    def test_turned_about_where_nothing_clashes(self):
        quiet = 0
        for o, a, b in self.texts():
            found = self.merged(o, a, b)
            turned = self.merged(o, b, a)
            self.assertEqual(found[1], turned[1], (o, a, b))
            if found[1] == 0:
                quiet += 1
                self.assertEqual(found, turned, (o, a, b))
        self.assertGreater(quiet, 100)

    def test_a_place_is_a_clash_just_where_all_three_differ(self):
        for o, a, b in self.texts():
            places, still = places_of(o, a, b)
            clashes = [place for place in places if place[0] != place[1] != place[2] != place[0]]
            self.assertEqual(self.merged(o, a, b)[1], len(clashes), (o, a, b))

    def test_against_the_model(self):
        for o, a, b in self.texts():
            self.assertEqual(self.merged(o, a, b), merged_model(o, a, b), (o, a, b))


if __name__ == "__main__":
    unittest.main()
