import unittest

from helper import RIGHT, WRONG, content, crc, is_right, some_content, whole


class HelperTest(unittest.TestCase):
    """The tests lean on these, so they are held to the document's own words first."""

    def test_crc_of_the_nine_digits(self):
        self.assertEqual(crc(b"123456789"), 0xE3069283)

    def test_a_half_has_256_bytes(self):
        self.assertEqual(len(whole(0, content())), 256)

    def test_right_and_wrong(self):
        self.assertEqual([name for name, told in RIGHT.items() if not is_right(told)], [])
        self.assertEqual([name for name, told in WRONG.items() if is_right(told)], [])
        self.assertTrue(all(is_right(some_content(seed)) for seed in range(50)))


if __name__ == "__main__":
    unittest.main()
