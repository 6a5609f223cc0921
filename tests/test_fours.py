import unittest

from linesback.fours import Reader, four_bytes


class FoursTest(unittest.TestCase):
    def test_the_lowest_byte_comes_first(self):
        self.assertEqual(four_bytes(0), [0, 0, 0, 0])
        self.assertEqual(four_bytes(0x01020304), [4, 3, 2, 1])
        self.assertEqual(Reader([4, 3, 2, 1]).read_four(), 0x01020304)

    def test_written_and_read_again(self):
        for number in (1, 255, 256, 65535, 65536, 0x00FF0000, 0x80000000, 0xFFFFFFFF):
            self.assertEqual(Reader(four_bytes(number)).read_four(), number)


if __name__ == "__main__":
    unittest.main()
