"""What the tests of both kinds of line share."""

import unittest

SIXTY = 10 ** 60 - 1


class DayCase(unittest.TestCase):
    """Below it stands a case for each kind of line, which sets the three values."""

    answers = None
    piles = None
    plain_line = None

    def assert_day(self, deeds, wanted, first, second):
        self.assertEqual(self.answers(deeds), wanted)
        self.assertEqual(self.piles(deeds), (first, second))

    def assert_like_plain_line(self, deeds):
        line = self.plain_line()
        self.assertEqual(self.answers(deeds), [line.answer(deed) for deed in deeds])
        self.assertEqual(self.piles(deeds), line.piles())

    def assert_kinds_at_each_time(self, deeds):
        for done in range(len(deeds) + 1):
            with self.subTest(done=done):
                self.assert_deeds_stay(deeds[:done])
                self.assert_answers_are_pairs(deeds[:done])
                self.assert_piles_are_a_pair_of_lists(deeds[:done])

    def assert_deeds_stay(self, deeds):
        for call in (self.answers, self.piles):
            handed_in = list(deeds)
            call(handed_in)
            self.assertEqual(handed_in, deeds)

    def assert_answers_are_pairs(self, deeds):
        told = self.answers(deeds)
        self.assertIs(type(told), list)
        self.assertEqual(len(told), len(deeds))
        for pair in told:
            self.assertIs(type(pair), tuple)
            self.assertEqual(len(pair), 2)
            self.assertIn(type(pair[0]), (int, type(None)))
            self.assertIs(type(pair[1]), int)

    def assert_piles_are_a_pair_of_lists(self, deeds):
        piles = self.piles(deeds)
        self.assertIs(type(piles), tuple)
        self.assertEqual([type(pile) for pile in piles], [list, list])
        self.assertIsNot(piles[0], piles[1])
