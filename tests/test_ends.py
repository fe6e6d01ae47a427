import itertools
import random

from platepiles.ends import answers_at_ends, piles_at_ends
from tests.days import SIXTY, DayCase

SIDES = ("left", "right")
OTHER = {"left": "right", "right": "left"}


def puts(side, plates):
    return [("put", side, plate) for plate in plates]


def takes(side, times):
    return [("take", side)] * times


def sided(side, near, far):
    """The piles in the order left, right, where those at the side and across from it are known."""
    return (near, far) if side == "left" else (far, near)


class PlainLine:
    """The line as one list from the left end to the right one, and how many of it lie on the left pile."""

    def __init__(self):
        self.plates = []
        self.on_left = 0

    def answer(self, deed):
        return self.put(deed) if deed[0] == "put" else self.take(deed[1])

    def put(self, deed):
        if deed[1] == "left":
            self.plates.insert(0, deed[2])
            self.on_left += 1
        else:
            self.plates.append(deed[2])
        return (None, 0)

    def take(self, side):
        count = len(self.plates)
        if count == 0:
            return (None, 0)
        moves = 0
        if side == "left":
            if self.on_left == 0:
                moves = self.on_left = count - count // 2
            self.on_left -= 1
            return (self.plates.pop(0), moves)
        if self.on_left == count:
            moves = count - count // 2
            self.on_left = count - moves
        return (self.plates.pop(), moves)

    def piles(self):
        return (self.plates[:self.on_left][::-1], self.plates[self.on_left:])


class EndsCase(DayCase):
    answers = staticmethod(answers_at_ends)
    piles = staticmethod(piles_at_ends)
    plain_line = PlainLine


class EmptyLineTest(EndsCase):
    def test_day_without_a_deed(self):
        self.assert_day([], [], [], [])

    def test_take_tells_none_with_no_move_at_either_end(self):
        for side in SIDES:
            with self.subTest(side=side):
                self.assert_day(takes(side, 1), [(None, 0)], [], [])
                self.assert_day(takes(side, 3), [(None, 0)] * 3, [], [])

    def test_again_behind_the_last_take(self):
        for put, first, second in itertools.product(SIDES, repeat=3):
            with self.subTest(put=put, first=first, second=second):
                moves = 0 if put == first else 1
                deeds = puts(put, [0]) + takes(first, 1) + takes(second, 1)
                self.assert_day(deeds, [(None, 0), (0, moves), (None, 0)], [], [])


class PutTest(EndsCase):
    def test_is_laid_on_that_sides_pile_and_tells_none(self):
        for side in SIDES:
            with self.subTest(side=side):
                self.assert_day(puts(side, [1, 2, 3]), [(None, 0)] * 3, *sided(side, [1, 2, 3], []))

    def test_at_both_ends(self):
        deeds = puts("left", [1]) + puts("right", [2, 3]) + puts("left", [4])
        self.assert_day(deeds, [(None, 0)] * 4, [1, 4], [2, 3])

    def test_equal_and_great_plates(self):
        deeds = puts("left", [0, 0, -SIXTY]) + puts("right", [SIXTY, SIXTY, 10 ** 61])
        self.assert_day(deeds, [(None, 0)] * 6, [0, 0, -SIXTY], [SIXTY, SIXTY, 10 ** 61])


class TakeTest(EndsCase):
    def test_from_that_sides_pile_without_a_move(self):
        for side in SIDES:
            with self.subTest(side=side):
                deeds = puts(side, [1, 2]) + puts(OTHER[side], [3, 4]) + takes(side, 2)
                self.assert_day(deeds, [(None, 0)] * 4 + [(2, 0), (1, 0)], *sided(side, [], [3, 4]))

    def test_example_and_its_mirror(self):
        for side in SIDES:
            with self.subTest(side=side):
                deeds = puts(OTHER[side], [1, 2, 3, 4, 5]) + takes(side, 1)
                self.assert_day(deeds, [(None, 0)] * 5 + [(1, 3)], *sided(side, [3, 2], [4, 5]))

    def test_halves(self):
        halves = ((1, 1), (2, 1), (3, 2), (4, 2), (5, 3), (6, 3), (7, 4), (8, 4), (99, 50), (100, 50))
        for side, (count, moves) in itertools.product(SIDES, halves):
            with self.subTest(side=side, count=count):
                row = list(range(1, count + 1))
                deeds = puts(OTHER[side], row) + takes(side, 1)
                near, far = row[1:moves][::-1], row[moves:]
                self.assert_day(deeds, [(None, 0)] * count + [(1, moves)], *sided(side, near, far))

    def test_halves_again_until_none_is_left(self):
        for side in SIDES:
            with self.subTest(side=side):
                deeds = puts(OTHER[side], [1, 2, 3, 4, 5]) + takes(side, 6)
                told = [(1, 3), (2, 0), (3, 0), (4, 1), (5, 1), (None, 0)]
                self.assert_day(deeds, [(None, 0)] * 5 + told, [], [])

    def test_ends_by_turns(self):
        for side in SIDES:
            with self.subTest(side=side):
                deeds = puts(OTHER[side], [1, 2, 3, 4]) + (takes(side, 1) + takes(OTHER[side], 1)) * 2
                told = [(1, 2), (4, 0), (2, 0), (3, 0)]
                self.assert_day(deeds, [(None, 0)] * 4 + told, [], [])

    def test_plates_put_at_both_ends_go_out_in_their_order(self):
        deeds = puts("left", [-1, -2]) + puts("right", [1, 2])
        told = [(-2, 0), (-1, 0), (1, 1), (2, 1)]
        self.assert_day(deeds + takes("left", 4), [(None, 0)] * 4 + told, [], [])
        told = [(2, 0), (1, 0), (-1, 1), (-2, 1)]
        self.assert_day(deeds + takes("right", 4), [(None, 0)] * 4 + told, [], [])

    def test_equal_nought_and_great_plates_are_moved_like_any(self):
        for side in SIDES:
            with self.subTest(side=side):
                deeds = puts(OTHER[side], [0, SIXTY, 0, -SIXTY, -SIXTY]) + takes(side, 3)
                told = [(0, 3), (SIXTY, 0), (0, 0)]
                self.assert_day(deeds, [(None, 0)] * 5 + told, *sided(side, [], [-SIXTY, -SIXTY]))


class WholeDayTest(EndsCase):
    def long_day(self, seed, length):
        source = random.Random(seed)
        words = source.choice((("put", "put", "take"), ("put", "take"), ("put", "take", "take")))
        deeds = []
        for number in range(length):
            side = source.choice(SIDES) if seed % 2 else SIDES[number // 40 % 2]
            plate = source.choice((number, -number, 0, SIXTY, -SIXTY, 10 ** 61))
            deeds.append(("put", side, plate) if source.choice(words) == "put" else ("take", side))
        return deeds

    def swinging_day(self, count):
        """Each time a half has come over, the other end takes: so halves come over as often as can be."""
        deeds, line, side = puts("right", range(count)), PlainLine(), "left"
        for deed in deeds:
            line.answer(deed)
        while line.plates:
            deeds.append(("take", side))
            if line.answer(deeds[-1])[1] > 0:
                side = OTHER[side]
        return deeds

    def assert_few_moves(self, deeds):
        moves = 0
        for done, (told, made) in enumerate(answers_at_ends(deeds), start=1):
            moves += made
            self.assertLessEqual(2 * moves, done)

    def test_every_short_day(self):
        for steps in itertools.product(itertools.product(("put", "take"), SIDES), repeat=7):
            deeds = [(word, side, place) if word == "put" else (word, side)
                     for place, (word, side) in enumerate(steps)]
            self.assert_like_plain_line(deeds)
            self.assert_few_moves(deeds)

    def test_long_days(self):
        for seed, length in itertools.product(range(12), (799, 800, 801, 1000)):
            with self.subTest(seed=seed, length=length):
                deeds = self.long_day(seed, length)
                self.assert_like_plain_line(deeds)
                self.assert_few_moves(deeds)

    def test_long_days_of_one_swing(self):
        for side, half in itertools.product(SIDES, (400, 401, 500)):
            with self.subTest(side=side, half=half):
                deeds = puts(OTHER[side], range(half)) + takes(side, half)
                self.assertEqual([told for told, made in answers_at_ends(deeds)][half:], list(range(half)))
                self.assertEqual(piles_at_ends(deeds), ([], []))
                self.assert_like_plain_line(deeds)
                self.assert_few_moves(deeds)

    def test_swings_from_end_to_end(self):
        for count in (1, 2, 3, 255, 256, 400, 401, 500):
            with self.subTest(count=count):
                deeds = self.swinging_day(count)
                self.assert_like_plain_line(deeds)
                self.assert_few_moves(deeds)

    def test_line_is_the_plates_put_and_not_taken_in_their_order(self):
        for seed in range(4):
            deeds = self.long_day(seed, 200)
            line = []
            for done, deed in enumerate(deeds, start=1):
                at_left = deed[1] == "left"
                if deed[0] == "put":
                    line.insert(0 if at_left else len(line), deed[2])
                elif line:
                    line.pop(0 if at_left else -1)
                left, right = piles_at_ends(deeds[:done])
                self.assertEqual(left[::-1] + right, line)

    def test_days_share_nothing(self):
        answers_at_ends(puts("left", [1, 2]))
        piles_at_ends(puts("right", [1, 2]))
        deeds = takes("left", 1) + takes("right", 1)
        self.assert_day(deeds, [(None, 0)] * 2, [], [])


class KindsTest(EndsCase):
    deeds = puts("right", [3, 0, -2]) + takes("left", 1) + puts("left", [5]) + takes("right", 4)

    def test_kinds_at_each_time_of_a_day(self):
        self.assert_kinds_at_each_time(self.deeds)
