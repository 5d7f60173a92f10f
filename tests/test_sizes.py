import unittest

from backissues import sizes

EXPECTED = {
    "MOST_NAMES": 12,
    "MOST_REACH": 10,
    "MOST_NUMBERS": 60,
    "MOST_VALUE": 1000000,
    "MOST_READERS": 10,
    "MOST_DEEDS": 400,
    "MOST_COURSES": 4096,
}


class SizesTest(unittest.TestCase):
    def test_the_seven_numbers(self):
        for name, value in EXPECTED.items():
            with self.subTest(name):
                self.assertEqual(getattr(sizes, name), value)
                self.assertIs(type(getattr(sizes, name)), int)


if __name__ == "__main__":
    unittest.main()
