import itertools
import random

from platepiles.waiting import answers, piles_behind
from tests.days import SIXTY, DayCase

TAKE, SEE, LEAST = ("take",), ("see",), ("least",)


def puts(plates):
    return [("put", plate) for plate in plates]


class PlainLine:
    """The line as one list, its first plates on the front pile: another way to the same answers."""

    def __init__(self):
        self.plates = []
        self.on_front = 0

    def answer(self, deed):
        if deed[0] == "put":
            self.plates.append(deed[1])
            return (None, 0)
        if not self.plates:
            return (None, 0)
        if deed[0] == "see":
            return (self.plates[0], 0)
        if deed[0] == "least":
            return (sorted(self.plates)[0], 0)
        moves = 0
        if self.on_front == 0:
            moves = self.on_front = len(self.plates)
        self.on_front -= 1
        return (self.plates.pop(0), moves)

    def piles(self):
        return (self.plates[:self.on_front][::-1], self.plates[self.on_front:])


class WaitingCase(DayCase):
    answers = staticmethod(answers)
    piles = staticmethod(piles_behind)
    plain_line = PlainLine


class EmptyLineTest(WaitingCase):
    def test_day_without_a_deed(self):
        self.assert_day([], [], [], [])

    def test_each_deed_tells_none_with_no_move(self):
        for deed in (TAKE, SEE, LEAST):
            with self.subTest(deed=deed):
                self.assert_day([deed], [(None, 0)], [], [])
                self.assert_day([deed] * 3, [(None, 0)] * 3, [], [])

    def test_again_behind_the_last_take(self):
        for deed in (TAKE, SEE, LEAST):
            with self.subTest(deed=deed):
                deeds = puts([4]) + [TAKE, deed]
                self.assert_day(deeds, [(None, 0), (4, 1), (None, 0)], [], [])

    def test_plates_come_in_behind_takes_of_none(self):
        deeds = [TAKE, TAKE] + puts([7]) + [SEE, LEAST, TAKE]
        self.assert_day(deeds, [(None, 0)] * 3 + [(7, 0), (7, 0), (7, 1)], [], [])


class PutTest(WaitingCase):
    def test_is_laid_on_the_back_pile_and_tells_none(self):
        self.assert_day(puts([1, 2, 3]), [(None, 0)] * 3, [], [1, 2, 3])

    def test_is_laid_on_the_back_pile_where_the_front_pile_has_some(self):
        deeds = puts([1, 2, 3]) + [TAKE] + puts([4, 5])
        self.assert_day(deeds, [(None, 0)] * 3 + [(1, 3)] + [(None, 0)] * 2, [3, 2], [4, 5])


class TakeTest(WaitingCase):
    rows = ([5], [0, 0], [3, 1, 2], [2, 2, 2], [-1, 0, 1, 0, -1], [SIXTY, -SIXTY, SIXTY, -SIXTY + 1])

    def test_plates_go_out_as_they_came_in(self):
        for row in self.rows:
            with self.subTest(row=row):
                told = [(plate, 0) for plate in row]
                told[0] = (row[0], len(row))
                self.assert_day(puts(row) + [TAKE] * len(row), [(None, 0)] * len(row) + told, [], [])

    def test_front_pile_is_used_up_before_the_back_pile_is_moved(self):
        deeds = puts([1, 2]) + [TAKE] + puts([3, 4, 5]) + [TAKE, TAKE, TAKE, TAKE, TAKE]
        wanted = [(None, 0)] * 2 + [(1, 2)] + [(None, 0)] * 3 + [(2, 0), (3, 3), (4, 0), (5, 0), (None, 0)]
        self.assert_day(deeds, wanted, [], [])

    def test_no_plate_is_moved_ahead_of_need(self):
        deeds = puts([1]) + [TAKE] + puts([2, 3])
        self.assert_day(deeds, [(None, 0), (1, 1), (None, 0), (None, 0)], [], [2, 3])

    def test_each_take_moves_one_where_plates_come_and_go_singly(self):
        deeds = []
        for plate in (0, -3, 0):
            deeds.extend(puts([plate]) + [TAKE])
        self.assert_day(deeds, [(None, 0), (0, 1), (None, 0), (-3, 1), (None, 0), (0, 1)], [], [])


class SeeTest(WaitingCase):
    def test_bottom_of_the_back_pile_where_the_front_pile_has_none(self):
        self.assert_day(puts([6, 5, 7]) + [SEE, SEE], [(None, 0)] * 3 + [(6, 0)] * 2, [], [6, 5, 7])

    def test_top_of_the_front_pile(self):
        deeds = puts([6, 5, 7]) + [TAKE, SEE] + puts([9]) + [SEE]
        wanted = [(None, 0)] * 3 + [(6, 3), (5, 0), (None, 0), (5, 0)]
        self.assert_day(deeds, wanted, [7, 5], [9])

    def test_nought_is_a_plate(self):
        self.assert_day(puts([0, 4]) + [SEE, TAKE], [(None, 0)] * 2 + [(0, 0), (0, 2)], [4], [])
        self.assert_day(puts([4, 0]) + [TAKE, SEE], [(None, 0)] * 2 + [(4, 2), (0, 0)], [0], [])


class LeastTest(WaitingCase):
    def test_on_the_back_pile_alone(self):
        self.assert_day(puts([3, 1, 2]) + [LEAST], [(None, 0)] * 3 + [(1, 0)], [], [3, 1, 2])

    def test_on_the_front_pile_alone(self):
        deeds = puts([3, 2, 1, 4]) + [TAKE, LEAST]
        self.assert_day(deeds, [(None, 0)] * 4 + [(3, 4), (1, 0)], [4, 1, 2], [])

    def test_on_both_piles(self):
        for late, least in ((5, 2), (2, 2), (1, 1), (0, 0), (-1, -1)):
            with self.subTest(late=late):
                deeds = puts([3, 2, 4]) + [TAKE] + puts([late, 6]) + [LEAST]
                wanted = [(None, 0)] * 3 + [(3, 3)] + [(None, 0)] * 2 + [(least, 0)]
                self.assert_day(deeds, wanted, [4, 2], [late, 6])

    def test_behind_takes_of_the_least(self):
        deeds = puts([1, 2]) + [TAKE] + puts([5, 3]) + [LEAST, TAKE, LEAST, TAKE, LEAST, TAKE, LEAST]
        told = [(2, 0), (2, 0), (3, 0), (5, 2), (3, 0), (3, 0), (None, 0)]
        self.assert_day(deeds, [(None, 0)] * 2 + [(1, 2)] + [(None, 0)] * 2 + told, [], [])

    def test_an_equal_plate_stays_behind_a_take_of_the_least(self):
        deeds = puts([-4, 7, -4]) + [TAKE, LEAST, TAKE, LEAST]
        self.assert_day(deeds, [(None, 0)] * 3 + [(-4, 3), (-4, 0), (7, 0), (-4, 0)], [-4], [])

    def test_nought_on_either_pile(self):
        deeds = puts([9, 0]) + [TAKE] + puts([3]) + [LEAST, TAKE, LEAST]
        self.assert_day(deeds, [(None, 0)] * 2 + [(9, 2), (None, 0), (0, 0), (0, 0), (3, 0)], [], [3])
        deeds = puts([9, 3]) + [TAKE] + puts([0]) + [LEAST]
        self.assert_day(deeds, [(None, 0)] * 2 + [(9, 2), (None, 0), (0, 0)], [3], [0])

    def test_sixty_figures(self):
        deeds = puts([SIXTY, 1 - SIXTY]) + [TAKE] + puts([-SIXTY]) + [LEAST, TAKE, TAKE, LEAST]
        told = [(-SIXTY, 0), (1 - SIXTY, 0), (-SIXTY, 1), (None, 0)]
        self.assert_day(deeds, [(None, 0)] * 2 + [(SIXTY, 2), (None, 0)] + told, [], [])


class WholeDayTest(WaitingCase):
    def long_day(self, seed, length):
        source = random.Random(seed)
        plates = (0, 1, -1, 5, -5, SIXTY, -SIXTY, SIXTY - 1, 10 ** 61)
        kinds = source.choice(((3, 2, 1, 1), (2, 3, 1, 1), (9, 1, 1, 1)))
        words = source.choices(("put", "take", "see", "least"), weights=kinds, k=length)
        return [("put", source.choice(plates)) if word == "put" else (word,) for word in words]

    def test_every_short_day(self):
        for steps in itertools.product(puts([-1, 0, 1]) + [TAKE], repeat=6):
            deeds = [SEE, LEAST]
            for step in steps:
                deeds.extend((step, SEE, LEAST))
            self.assert_like_plain_line(deeds)

    def test_long_days(self):
        for seed, length in itertools.product(range(8), (799, 800, 801, 1000)):
            with self.subTest(seed=seed, length=length):
                self.assert_like_plain_line(self.long_day(seed, length))

    def test_long_days_of_one_swing(self):
        for half in (400, 500):
            row = list(range(half, 0, -1))
            told = [(plate, 0) for plate in row]
            told[0] = (half, half)
            self.assert_day(puts(row) + [TAKE] * half, [(None, 0)] * half + told, [], [])
        self.assert_day(puts(range(1000)), [(None, 0)] * 1000, [], list(range(1000)))

    def test_moves_are_the_taken_and_those_on_the_front_pile(self):
        for seed in range(4):
            deeds = self.long_day(seed, 300)
            moves = taken = 0
            for done, (told, made) in enumerate(answers(deeds), start=1):
                moves += made
                taken += deeds[done - 1] == TAKE and told is not None
                front = piles_behind(deeds[:done])[0]
                self.assertEqual(moves, taken + len(front))

    def test_days_share_nothing(self):
        answers(puts([1, 2]))
        piles_behind(puts([1, 2]))
        self.assert_day([TAKE, SEE, LEAST], [(None, 0)] * 3, [], [])


class KindsTest(WaitingCase):
    deeds = puts([3, 0, -2]) + [TAKE, SEE, LEAST] + puts([5]) + [TAKE] * 4

    def test_kinds_at_each_time_of_a_day(self):
        self.assert_kinds_at_each_time(self.deeds)
