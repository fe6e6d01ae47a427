import itertools
import random
import unittest

from platepiles.errors import NoWidth
from platepiles.waiting import least_of_windows
from tests.days import SIXTY


def plain_leasts(row, width):
    return [min(row[place:place + width]) for place in range(len(row) - width + 1)]


class WindowsTest(unittest.TestCase):
    def test_ordinary_rows(self):
        self.assertEqual(least_of_windows([4, 2, 5, 3, 3, 6], 3), [2, 2, 3, 3])
        self.assertEqual(least_of_windows([1, 2, 3, 4], 2), [1, 2, 3])
        self.assertEqual(least_of_windows([4, 3, 2, 1], 2), [3, 2, 1])

    def test_width_one_tells_each_number(self):
        for row in ([8], [0, -1, 0], [SIXTY, -SIXTY]):
            self.assertEqual(least_of_windows(row, 1), row)

    def test_width_of_the_row_tells_its_least(self):
        for row in ([8], [0, -1, 0], [5, 9, 7, 6]):
            self.assertEqual(least_of_windows(row, len(row)), [min(row)])

    def test_no_window_is_as_wide(self):
        for row in ([8], [0, -1, 0]):
            for width in (len(row) + 1, len(row) + 2, 900, SIXTY, 10 ** 61):
                self.assertEqual(least_of_windows(row, width), [])

    def test_row_without_a_number(self):
        for width in (1, 2, 800, SIXTY):
            self.assertEqual(least_of_windows([], width), [])

    def test_equal_and_negative_numbers(self):
        self.assertEqual(least_of_windows([2, 2, 2, 2], 2), [2, 2, 2])
        self.assertEqual(least_of_windows([-1, -1, -3, -2, -3], 2), [-1, -3, -3, -3])
        self.assertEqual(least_of_windows([0, 0, 1, 0, 2, 3], 2), [0, 0, 0, 0, 2])

    def test_sixty_figures(self):
        row = [SIXTY, SIXTY - 1, -SIXTY, 1 - SIXTY, SIXTY]
        self.assertEqual(least_of_windows(row, 2), [SIXTY - 1, -SIXTY, -SIXTY, 1 - SIXTY])

    def test_every_short_row(self):
        for length in range(7):
            for row in itertools.product((-1, 0, 1), repeat=length):
                for width in range(1, 9):
                    self.assertEqual(least_of_windows(list(row), width), plain_leasts(list(row), width))

    def test_long_rows(self):
        source = random.Random(5)
        for length, width in itertools.product((799, 800, 801, 1000), (1, 2, 7, 399, 799, 800, 801, 1000)):
            mixed = [source.randint(-SIXTY, SIXTY) for place in range(length)]
            for row in (mixed, sorted(mixed), sorted(mixed)[::-1], [place % 5 for place in range(length)]):
                with self.subTest(length=length, width=width):
                    self.assertEqual(least_of_windows(row, width), plain_leasts(row, width))


class NoWidthTest(unittest.TestCase):
    def test_width_below_one_is_refused(self):
        for row in ([], [3], [2, 0, -1]):
            # The last one is too long for Python to write out, so the error's words must not hold it.
            for width in (0, -1, -2, -800, -SIXTY, -10 ** 5000):
                with self.subTest(row=row, bits=width.bit_length()):
                    with self.assertRaises(NoWidth) as caught:
                        least_of_windows(row, width)
                    self.assertIs(type(caught.exception), NoWidth)


class KindsTest(unittest.TestCase):
    def test_row_stays_as_it_was(self):
        for width in (1, 2, 4, 5):
            row = [3, -1, 0, 3]
            least_of_windows(row, width)
            self.assertEqual(row, [3, -1, 0, 3])

    def test_row_stays_as_it_was_behind_a_refusal(self):
        row = [3, -1]
        with self.assertRaises(NoWidth):
            least_of_windows(row, 0)
        self.assertEqual(row, [3, -1])

    def test_leasts_are_a_new_list(self):
        for row, width in (([], 1), ([4], 2), ([4, 1], 1)):
            told = least_of_windows(row, width)
            self.assertIs(type(told), list)
            self.assertIsNot(told, row)
